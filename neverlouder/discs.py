"""Roots within the disc: whether a curve has one there, and points near to it."""

from neverlouder.curves import moved, worth_at
from neverlouder.ratios import Ratio
from neverlouder.twins import Twin, is_point

# The four quarters of a square, by the signs of the way from its middle to theirs.
QUARTERS = ((-1, -1), (-1, 1), (1, -1), (1, 1))
# A circle round a square's middle, so many times as wide as half a side, has all of the square within.
AROUND = (3, 2)


def is_steady_curve(entries):
    """Whether a told curve has no root of size up to 1; nought is not steady."""
    left = entries
    while len(left) > 1:
        first = left[0]
        last = left[-1]
        more = first.size() - last.size()
        if more.sign <= 0:
            return False
        # The divisor is above 0, and keeps the numbers short.
        by = first.mirror().over(more)
        less = last.over(more)
        left = [by * one - less * other.mirror() for one, other in zip(left[:-1], left[:0:-1])]
    return len(left) == 1


def is_loud_at(top, base, place):
    """Whether a Twin is a loud point of the box of two told curves."""
    return is_point(place) and worth_at(base, place).size().is_below(worth_at(top, place).size())


def loud_near_root(top, base):
    """A loud point near a root that the base has within the disc, and that the top has not."""
    squares = [(Twin(0), Ratio(1))]
    middle, half = squares.pop()
    # A square that may hold such a root is cut in four; so some are as near to one as is wanted.
    while not is_loud_at(top, base, middle):
        if _is_in_disc(middle, half) and _may_hold_root(base, middle, half):
            half = half.over(2)
            squares.extend([(middle + Twin(half * plain, half * side), half) for plain, side in QUARTERS])
        middle, half = squares.pop()
    return middle


def _is_in_disc(middle, half):
    """Whether some of a square lies within the disc."""
    sides = [(one.unsigned() - half) for one in (middle.plain, middle.side)]
    return Ratio.sum_of([one * one for one in sides if one.sign > 0]).is_below(1)


def _may_hold_root(base, middle, half):
    width = Ratio(AROUND[0], AROUND[1]) * half
    power = Ratio(1)
    entries = []
    for one in moved(base, middle):
        entries.append(one * power)
        power = power * width
    return not is_steady_curve(entries)
