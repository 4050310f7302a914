"""What counts as an INTEGER, as a COUNT, and as a list that is passed."""

from neverlouder.errors import InvalidMany


def is_integer(value):
    """Whether any value is an INTEGER; True and False are none."""
    return isinstance(value, int) and not isinstance(value, bool)


def is_count(value):
    """Whether any value is a COUNT."""
    return is_integer(value) and value >= 0


def is_list(value):
    """Whether any value may be passed where the document says list."""
    return isinstance(value, (list, tuple))


def need_count(many):
    """Raise InvalidMany unless it is a COUNT."""
    if not is_count(many):
        raise InvalidMany(many)


def need_count_to(many, most):
    """Raise InvalidMany unless it is a COUNT that is at most so great."""
    if not is_count(many) or many > most:
        raise InvalidMany(many)
