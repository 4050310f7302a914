"""Series: how the quotient of two curves goes on, number by number."""

from neverlouder.basics import need_count
from neverlouder.curves import moved, padded, product_of, told
from neverlouder.errors import NoughtStart, TooMany
from neverlouder.twins import Twin, as_twin

MOST_NUMBERS = 60


def quotient_series(curve, other, many):
    """The first so many numbers of the series of curve by other."""
    upper = told(curve)
    lower = told(other)
    need_count(many)
    return _started(upper, lower, many)


def quotient_at(curve, other, number, many):
    """The first so many numbers of the series at a number."""
    upper = told(curve)
    lower = told(other)
    at = as_twin(number)
    need_count(many)
    return _started(moved(upper, at), moved(lower, at), many)


def _started(upper, lower, many):
    if not lower or lower[0].is_nought:
        raise NoughtStart()
    _need_few(many)
    return quotient_numbers(upper, lower, many)


def _need_few(many):
    if many > MOST_NUMBERS:
        raise TooMany("many", MOST_NUMBERS)


def quotient_numbers(upper, lower, many):
    """The first so many numbers of the series of two lists of Twins, the lower one not beginning with 0."""
    found = []
    for n, entry in enumerate(padded(upper, many)):
        taken = [lower[k] * found[n - k] for k in range(1, min(n + 1, len(lower)))]
        found.append((entry - Twin.total(taken)).over(lower[0]))
    return found


def product_series(curve, other, many):
    """The first so many entries of the product of two curves, noughts beyond its end."""
    first = told(curve)
    second = told(other)
    need_count(many)
    _need_few(many)
    return padded(product_of(first, second), many)


def series_at(curve, number, many):
    """The first so many entries of the moved curve, noughts beyond its end."""
    entries = moved(curve, number)
    need_count(many)
    _need_few(many)
    return padded(entries, many)
