"""Numbers of two parts, plain + side i, where i times i is -1."""

from neverlouder.basics import is_list, need_count
from neverlouder.errors import InvalidNumber, InvalidPoint, TooMany
from neverlouder.ratios import Ratio, as_ratio, is_ratio

MOST_POWER = 200


def is_value(value):
    """Whether any value is a VALUE: an INTEGER, a Ratio or a Twin."""
    return isinstance(value, Twin) or is_ratio(value)


def is_point(value):
    """Whether any value is a POINT: a VALUE of a size below 1."""
    return is_value(value) and as_twin(value).size().is_below(1)


def is_unit(value):
    """Whether any value is a UNIT: a VALUE of size 1."""
    return is_value(value) and as_twin(value).size() == Ratio(1)


def are_values(value, least, most):
    """Whether any value is a list of VALUES, at least so many and at most so many."""
    return is_list(value) and least <= len(value) <= most and all([is_value(one) for one in value])


def as_twin(number):
    """The Twin of the same worth; InvalidNumber unless it is a VALUE."""
    if isinstance(number, Twin):
        return number
    if not is_ratio(number):
        raise InvalidNumber(number)
    return Twin(number)


def as_point(point):
    """The Twin of the same worth; InvalidPoint unless it is a POINT."""
    if not is_point(point):
        raise InvalidPoint(point)
    return as_twin(point)


class Twin:
    """The number plain + side i; it never changes."""

    def __init__(self, plain, side=0):
        self._plain = as_ratio(plain)
        self._side = as_ratio(side)

    @property
    def plain(self):
        """The plain part, a Ratio."""
        return self._plain

    @property
    def side(self):
        """The side, a Ratio."""
        return self._side

    @property
    def is_plain(self):
        """Whether the side is 0."""
        return self._side.sign == 0

    @property
    def is_nought(self):
        """Whether both parts are 0."""
        return self._plain.sign == 0 and self._side.sign == 0

    def __add__(self, other):
        right = as_twin(other)
        return Twin(self._plain + right.plain, self._side + right.side)

    def __radd__(self, other):
        return self + other

    def __sub__(self, other):
        right = as_twin(other)
        return Twin(self._plain - right.plain, self._side - right.side)

    def __rsub__(self, other):
        return as_twin(other) - self

    def __mul__(self, other):
        right = as_twin(other)
        if self.is_plain and right.is_plain:
            return Twin(self._plain * right.plain)
        plain = self._plain * right.plain - self._side * right.side
        side = self._plain * right.side + self._side * right.plain
        return Twin(plain, side)

    def __rmul__(self, other):
        return self * other

    def __neg__(self):
        return Twin(-self._plain, -self._side)

    def over(self, number):
        """This number divided by another one."""
        right = as_twin(number)
        above = self * right.mirror()
        # The size of 0 alone is 0: just then DividedByZero comes from here.
        size = right.size()
        return Twin(above.plain.over(size), above.side.over(size))

    def mirror(self):
        """The number with the side's sign changed."""
        return Twin(self._plain, -self._side)

    def size(self):
        """The number times its mirror, a Ratio."""
        return self._plain * self._plain + self._side * self._side

    def power(self, many):
        """The product of so many of this number, 1 for 0."""
        need_count(many)
        if many > MOST_POWER:
            raise TooMany("power", MOST_POWER)
        found = Twin(1)
        for _ in range(many):
            found = found * self
        return found

    @classmethod
    def total(cls, numbers):
        """The sum of a list, 0 of none."""
        if not is_list(numbers):
            raise InvalidNumber(numbers)
        found = Twin(0)
        for number in numbers:
            found = found + number
        return found

    def __eq__(self, other):
        return isinstance(other, Twin) and self._plain == other._plain and self._side == other._side

    def __str__(self):
        if self._side.sign == 0:
            return str(self._plain)
        if self._plain.sign == 0:
            return f"{self._side} i"
        if self._side.sign > 0:
            return f"{self._plain} + {self._side} i"
        return f"{self._plain} - {self._side.unsigned()} i"

    def __repr__(self):
        return f"Twin({self._plain!r}, {self._side!r})"
