"""The rim of the disc, and how far the base of a box is above its top there."""

from neverlouder.basics import is_list
from neverlouder.boxes import need_box
from neverlouder.curves import MOST_ENTRIES, product_of, put_curve
from neverlouder.errors import InvalidCurve, TooMany
from neverlouder.ratios import as_ratio, is_ratio
from neverlouder.reals import is_somewhere_below, roots_of, whole_curve
from neverlouder.twins import Twin

MOST_DEGREE = 8
MOST_REAL_DEGREE = 16


def rim_place(ratio):
    """The number (1 + t i) by (1 - t i) of size 1, a Twin."""
    t = as_ratio(ratio)
    return Twin(1, t).over(Twin(1, -t))


def need_degree(many, most):
    """Raise TooMany if this degree is greater than it may be."""
    if many > most:
        raise TooMany("degree", most)


def rim_curve(box):
    """The list of the Ratios of the rim curve, without a nought at its end."""
    need_box(box)
    need_degree(box.degree, MOST_DEGREE)
    return rim_entries(box)


def rim_entries(box):
    """The rim curve of a box of any degree."""
    top, base = box.curves()
    many = box.degree
    found = [low.plain - high.plain for low, high in zip(_rim_sizes(base, many), _rim_sizes(top, many))]
    while found and found[-1].sign == 0:
        found.pop()
    return found


def _rim_sizes(entries, many):
    """The 2 many + 1 entries of (1 + t t) ** many times the size of a told curve's worth at t's rim place."""
    upper = put_curve(entries, many, [Twin(1), Twin(0, 1)], [Twin(1), Twin(0, -1)])
    sizes = product_of(upper, [one.mirror() for one in upper])
    return sizes + [Twin(0)] * (2 * many + 1 - len(sizes))


def real_roots(curve):
    """How many unlike real roots a curve of Ratios has."""
    entries = _told_reals(curve)
    if not entries:
        raise InvalidCurve(curve)
    need_degree(len(entries) - 1, MOST_REAL_DEGREE)
    return roots_of(entries)


def is_nowhere_below(curve):
    """Whether a curve of Ratios is nowhere below 0."""
    entries = _told_reals(curve)
    need_degree(len(entries) - 1, MOST_REAL_DEGREE)
    return not is_somewhere_below(entries)


def _told_reals(curve):
    if not is_list(curve) or len(curve) > MOST_ENTRIES or not all([is_ratio(one) for one in curve]):
        raise InvalidCurve(curve)
    return whole_curve(curve)
