"""Roots within the disc: whether a curve has one there, and points near to it.

Curves are reckoned here as lists of pairs (plain, side) of INTEGERS: a number above 0 times a curve has the
same roots, and so all pairs are divided by what they have in common.
"""

from math import gcd, lcm

from neverlouder.curves import worth_at
from neverlouder.ratios import Ratio
from neverlouder.twins import Twin, is_point

# The four quarters of a square, by the signs of the way from its middle to theirs.
QUARTERS = ((-1, -1), (-1, 1), (1, -1), (1, 1))
# A circle round a square's middle, so many times as wide as half a side, has all of the square within.
AROUND = (3, 2)


def is_steady_curve(entries):
    """Whether a told curve has no root of size up to 1; nought is not steady."""
    return _are_steady(_whole_pairs(entries))


def _whole_pairs(entries):
    """The pairs of a told curve, times a number above 0."""
    below = 1
    for one in entries:
        below = lcm(below, one.plain.bottom, one.side.bottom)
    return [(_times_whole(one.plain, below), _times_whole(one.side, below)) for one in entries]


def _times_whole(ratio, below):
    """The INTEGER that is the Ratio times a multiple of its bottom."""
    return ratio.top * (below // ratio.bottom)


def _are_steady(pairs):
    left = pairs
    while len(left) > 1:
        if _size(left[0]) <= _size(left[-1]):
            return False
        left = _shortened(_less_turned(left))
    return len(left) == 1


def _size(pair):
    return pair[0] * pair[0] + pair[1] * pair[1]


def _product(one, two):
    return one[0] * two[0] - one[1] * two[1], one[0] * two[1] + one[1] * two[0]


def _less_turned(pairs):
    """The first entry mirrored times the curve, less the last one times the turned curve: one entry less."""
    first = (pairs[0][0], -pairs[0][1])
    found = []
    for one, other in zip(pairs[:-1], pairs[:0:-1]):
        plain, side = _product(first, one)
        plain_less, side_less = _product(pairs[-1], (other[0], -other[1]))
        found.append((plain - plain_less, side - side_less))
    return found


def _shortened(pairs):
    """The pairs, not all (0, 0), divided by what they have in common."""
    part = 0
    for plain, side in pairs:
        part = gcd(part, plain, side)
    return [(plain // part, side // part) for plain, side in pairs]


def is_loud_at(top, base, place):
    """Whether a Twin is a loud point of the box of two told curves."""
    return is_point(place) and worth_at(base, place).size().is_below(worth_at(top, place).size())


def loud_near_root(top, base):
    """A loud point near a root that the base has within the disc, and that the top has not."""
    pairs = _whole_pairs(base)
    squares = []
    middle = Twin(0)
    half = Ratio(1)
    # A square that may hold such a root is cut in four; so some are as near to one as is wanted.
    while not is_loud_at(top, base, middle):
        if _is_in_disc(middle, half) and _may_hold_root(pairs, middle, half):
            half = half.over(2)
            squares.extend([(middle + Twin(half * plain, half * side), half) for plain, side in QUARTERS])
        middle, half = squares.pop()
    return middle


def _is_in_disc(middle, half):
    """Whether some of a square lies within the disc."""
    sides = [one.unsigned() - half for one in (middle.plain, middle.side)]
    return Ratio.sum_of([one * one for one in sides if one.sign > 0]).is_below(1)


def _may_hold_root(pairs, middle, half):
    """Whether a curve has a root within the circle round a square."""
    below = lcm(middle.plain.bottom, middle.side.bottom, AROUND[1] * half.bottom)
    start = (_times_whole(middle.plain, below), _times_whole(middle.side, below))
    width = _times_whole(half * Ratio(AROUND[0], AROUND[1]), below)
    return not _are_steady(_shortened(_led_to_circle(pairs, start, width, below)))


def _led_to_circle(pairs, start, width, below):
    """The curve that has at y, times a number above 0, the worth of this one at (start + width y) by below."""
    found = []
    power = 1
    for one in pairs[::-1]:
        higher = [(0, 0)] + [(plain * width, side * width) for plain, side in found]
        lower = [_product(pair, start) for pair in found] + [(0, 0)]
        found = [(up[0] + low[0], up[1] + low[1]) for up, low in zip(higher, lower)]
        found[0] = (found[0][0] + one[0] * power, found[0][1] + one[1] * power)
        power = power * below
    return found
