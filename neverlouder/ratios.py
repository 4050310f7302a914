"""Fractions in lowest terms."""

from math import gcd

from neverlouder.basics import is_integer, is_list
from neverlouder.errors import DividedByZero, InvalidRatio


def is_ratio(value):
    """Whether any value is an INTEGER or a Ratio."""
    return isinstance(value, Ratio) or is_integer(value)


def as_ratio(ratio):
    """The Ratio of the same worth; InvalidRatio unless it is an INTEGER or a Ratio."""
    if isinstance(ratio, Ratio):
        return ratio
    return Ratio(ratio)


class Ratio:
    """A fraction in lowest terms, its bottom at least 1; it never changes."""

    def __init__(self, top, bottom=1):
        if not is_integer(top):
            raise InvalidRatio(top)
        if not is_integer(bottom) or bottom == 0:
            raise InvalidRatio(bottom)
        part = gcd(top, bottom)
        if bottom < 0:
            part = -part
        self._top = top // part
        self._bottom = bottom // part

    @property
    def top(self):
        """The INTEGER above the stroke."""
        return self._top

    @property
    def bottom(self):
        """The INTEGER below the stroke, at least 1."""
        return self._bottom

    @property
    def sign(self):
        """-1, 0 or 1."""
        if self._top == 0:
            return 0
        return 1 if self._top > 0 else -1

    @property
    def is_whole(self):
        """Whether the bottom is 1."""
        return self._bottom == 1

    def __add__(self, other):
        right = as_ratio(other)
        return Ratio(self._top * right.bottom + right.top * self._bottom, self._bottom * right.bottom)

    def __radd__(self, other):
        return self + other

    def __sub__(self, other):
        right = as_ratio(other)
        return Ratio(self._top * right.bottom - right.top * self._bottom, self._bottom * right.bottom)

    def __rsub__(self, other):
        return as_ratio(other) - self

    def __mul__(self, other):
        right = as_ratio(other)
        return Ratio(self._top * right.top, self._bottom * right.bottom)

    def __rmul__(self, other):
        return self * other

    def __neg__(self):
        return Ratio(-self._top, self._bottom)

    def over(self, ratio):
        """This number divided by another one."""
        right = as_ratio(ratio)
        if right.top == 0:
            raise DividedByZero()
        return Ratio(self._top * right.bottom, self._bottom * right.top)

    def unsigned(self):
        """The number without its sign."""
        return Ratio(abs(self._top), self._bottom)

    def is_below(self, ratio):
        """Whether this number is less than the other one."""
        right = as_ratio(ratio)
        return self._top * right.bottom < right.top * self._bottom

    def is_at_most(self, ratio):
        """Whether this number is not greater than the other one."""
        right = as_ratio(ratio)
        return self._top * right.bottom <= right.top * self._bottom

    @classmethod
    def sum_of(cls, ratios):
        """The sum of a list, 0 of none."""
        if not is_list(ratios):
            raise InvalidRatio(ratios)
        total = Ratio(0)
        for ratio in ratios:
            total = total + ratio
        return total

    def __eq__(self, other):
        return isinstance(other, Ratio) and self._top == other._top and self._bottom == other._bottom

    def __str__(self):
        if self._bottom == 1:
            return str(self._top)
        return f"{self._top}/{self._bottom}"

    def __repr__(self):
        return f"Ratio({self._top}, {self._bottom})"
