"""Judged boxes: whether a box is never louder, or a point at which it is."""

from neverlouder.boxes import need_box
from neverlouder.curves import told
from neverlouder.discs import is_loud_at, is_steady_curve, loud_near_root
from neverlouder.ratios import Ratio
from neverlouder.reals import is_somewhere_below, place_below, roots_of, whole_curve
from neverlouder.rims import MOST_DEGREE, need_degree, rim_entries, rim_place
from neverlouder.twins import as_twin, is_point


def is_steady(curve):
    """Whether the curve has no root of size up to 1."""
    entries = told(curve)
    need_degree(len(entries) - 1, MOST_DEGREE)
    return is_steady_curve(entries)


def _judged_rim(box):
    """The rim curve of a box that is not of too great a degree, told in INTEGERS."""
    need_box(box)
    need_degree(box.degree, MOST_DEGREE)
    return whole_curve(rim_entries(box))


def is_never_louder(box):
    """Whether the box is never louder than what it heard."""
    rim = _judged_rim(box)
    return is_steady_curve(box.curves()[1]) and not is_somewhere_below(rim)


def loud_point(box):
    """A point at which the box is louder, a Twin; None if it is never louder."""
    rim = _judged_rim(box)
    top, base = box.curves()
    if is_somewhere_below(rim):
        return _loud_inside(top, base, rim_place(place_below(rim)))
    if is_steady_curve(base):
        return None
    return loud_near_root(top, base)


def _loud_inside(top, base, place):
    """A loud point a little within the rim from a place on it at which the top is the greater one."""
    many = 1
    found = place.over(2)
    while not is_loud_at(top, base, found):
        many = 2 * many
        found = place * (1 - Ratio(1, 1 << many))
    return found


def is_loud_point(box, value):
    """Whether any value is a loud point of the box."""
    need_box(box)
    top, base = box.curves()
    return is_point(value) and is_loud_at(top, base, as_twin(value))


def is_strictly_softer(box):
    """Whether the box is never louder, and nowhere on the rim as loud as what it heard."""
    return is_never_louder(box) and touches(box) == 0


def touches(box):
    """How many places of the rim there are at which top and base are alike in size; None if all are such."""
    rim = _judged_rim(box)
    if not rim:
        return None
    # Just if they are alike at -1, beyond all t, the curve has fewer entries.
    return roots_of(rim) + (1 if len(rim) < 2 * box.degree + 1 else 0)
