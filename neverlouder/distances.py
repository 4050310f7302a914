"""Distances of points, and what they let a box that is never louder make of two points."""

from neverlouder.errors import InvalidRatio, NotTwo
from neverlouder.made import kind_of
from neverlouder.ratios import as_ratio
from neverlouder.tellings import answers_in, need_not_loud, told_telling
from neverlouder.twins import as_point


def distance(point, other_point):
    """The distance of two points, a Ratio."""
    return _distance_of(as_point(point), as_point(other_point))


def _distance_of(place, other):
    return (place - other).size().over((1 - place.mirror() * other).size())


def round_spot(point, ratio):
    """The tuple of the middle and the half width squared of all points at most so far away."""
    place = as_point(point)
    most = as_ratio(ratio)
    if most.sign < 0 or not most.is_below(1):
        raise InvalidRatio(ratio)
    return _round_spot(place, most)


def _round_spot(place, ratio):
    size = place.size()
    below = 1 - ratio * size
    square = ratio * (1 - size) * (1 - size)
    return place * (1 - ratio).over(below), square.over(below * below)


def two_let(telling):
    """Whether a telling of two tolds with a single answer each is doable."""
    tolds = told_telling(telling)
    if len(tolds) != 2 or answers_in(tolds) != 2:
        raise NotTwo()
    return kind_of(tolds) != "none"


def far_pair(telling):
    """The first tuple (i, j) of tolds whose first answers alone are not doable; None without one."""
    firsts = [(place, [answers[0]]) for place, answers in told_telling(telling)]
    for i, one in enumerate(firsts):
        for j in range(i + 1, len(firsts)):
            if kind_of([one, firsts[j]]) == "none":
                return i, j
    return None


def lone_spots(telling, point):
    """What each told alone, by its first answer, lets at a point: tuples (middle, half width squared)."""
    tolds = told_telling(telling)
    place = as_point(point)
    need_not_loud(tolds)
    # Round a number of size 1 these words tell it alone, too.
    return [_round_spot(answers[0], _distance_of(goal, place)) for goal, answers in tolds]
