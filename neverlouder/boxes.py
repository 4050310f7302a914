"""Boxes: two curves, a top and a base."""

from neverlouder.basics import need_count_to
from neverlouder.curves import common_part, quotient_and_rest, told, worth_at
from neverlouder.errors import InvalidBox, NoughtStart, NoWorth
from neverlouder.series import quotient_at, quotient_series
from neverlouder.twins import as_point

MOST_AROUND = 8
MOST_KNOCK = 60


def need_box(box):
    """Raise InvalidBox unless it is a Box."""
    if not isinstance(box, Box):
        raise InvalidBox(box)


def lowest_terms(top, base):
    """Two told curves of any degree without their common part, the base's entry 0 made 1.

    None if that entry is 0, or the base nought: these two make no box.
    """
    if not base:
        return None
    part = common_part(top, base)
    upper = quotient_and_rest(top, part)[0]
    lower = quotient_and_rest(base, part)[0]
    if lower[0].is_nought:
        return None
    return [one.over(lower[0]) for one in upper], [one.over(lower[0]) for one in lower]


def box_of_curves(top, base):
    """The Box of two told curves, of a degree up to 40 in lowest terms; None if they make none."""
    found = lowest_terms(top, base)
    if found is None:
        return None
    upper, lower = found
    return Box(upper, lower)


class Box:
    """A box in lowest terms; it never changes."""

    def __init__(self, top, base):
        upper = told(top)
        lower = told(base)
        if not lower or lower[0].is_nought:
            raise NoughtStart()
        self._top, self._base = lowest_terms(upper, lower)

    @property
    def degree(self):
        """The greater one of the degrees of both curves in lowest terms."""
        return max(len(self._top), len(self._base)) - 1

    def curves(self):
        """The tuple (top, base) in lowest terms."""
        return list(self._top), list(self._base)

    def worth(self, point):
        """The worth at a point, a Twin."""
        at = as_point(point)
        below = worth_at(self._base, at)
        if below.is_nought:
            raise NoWorth(point)
        return worth_at(self._top, at).over(below)

    def around(self, point, many):
        """So many entries around a point."""
        at = as_point(point)
        need_count_to(many, MOST_AROUND)
        if worth_at(self._base, at).is_nought:
            raise NoWorth(point)
        return quotient_at(self._top, self._base, at, many)

    def knock(self, many):
        """So many answers to the row 1, 0, 0, .."""
        need_count_to(many, MOST_KNOCK)
        return quotient_series(self._top, self._base, many)

    def __eq__(self, other):
        return isinstance(other, Box) and self._top == other._top and self._base == other._base

    def __repr__(self):
        return f"Box({self._top!r}, {self._base!r})"
