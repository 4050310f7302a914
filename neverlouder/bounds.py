"""Bounds: how loud a box may be, the made tables within them and their bars."""

from neverlouder.bars import bar, is_bar
from neverlouder.errors import InvalidBound
from neverlouder.made import made_rows
from neverlouder.ratios import as_ratio, is_ratio
from neverlouder.squares import is_never_below
from neverlouder.tellings import told_telling


def as_bound(bound):
    """The Ratio of the same worth; InvalidBound unless it is a BOUND."""
    if not is_ratio(bound) or as_ratio(bound).sign <= 0:
        raise InvalidBound(bound)
    return as_ratio(bound)


def made_table_within(telling, bound):
    """The made table of the telling within the bound."""
    tolds = told_telling(telling)
    return made_rows(tolds, as_bound(bound))


def is_doable_within(telling, bound):
    """Whether some box within the bound does the telling."""
    return is_never_below(made_table_within(telling, bound))


def bar_within(telling, bound):
    """A bar of the telling within the bound, a list of Twins; None without one."""
    return bar(made_table_within(telling, bound))


def is_bar_within(telling, bound, value):
    """Whether any value is a bar of the telling within the bound."""
    return is_bar(made_table_within(telling, bound), value)
