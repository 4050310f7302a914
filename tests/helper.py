"""What the tests share: a second reckoning by Fractions, samples, and looks at errors."""

import random
from fractions import Fraction

from neverlouder.ratios import Ratio
from neverlouder.twins import Twin

HALF = Ratio(1, 2)
POINTS = (
    0, Ratio(1, 2), Ratio(-1, 3), Twin(0, Ratio(1, 2)), Twin(Ratio(1, 2), Ratio(-1, 3)), Ratio(1, 4), Ratio(-3, 5),
    Twin(Ratio(-1, 4), Ratio(1, 4)),
)
UNITS = (1, -1, Twin(0, 1), Twin(Ratio(3, 5), Ratio(4, 5)), Twin(Ratio(5, 13), Ratio(-12, 13)))
# Not quite of size 1.
NEAR_UNITS = (Twin(Ratio(3, 5), Ratio(81, 100)), Ratio(1000001, 1000000), Twin(0, Ratio(-7, 6)), 2)


class Exact:
    """A number of two parts, reckoned by Fractions alone."""

    def __init__(self, plain, side=0):
        self.plain = Fraction(plain)
        self.side = Fraction(side)

    def __add__(self, other):
        return Exact(self.plain + other.plain, self.side + other.side)

    def __sub__(self, other):
        return Exact(self.plain - other.plain, self.side - other.side)

    def __mul__(self, other):
        plain = self.plain * other.plain - self.side * other.side
        return Exact(plain, self.plain * other.side + self.side * other.plain)

    def __truediv__(self, other):
        above = self * other.mirror()
        return Exact(above.plain / other.size(), above.side / other.size())

    def mirror(self):
        return Exact(self.plain, -self.side)

    def size(self):
        return self.plain ** 2 + self.side ** 2

    def twin(self):
        return Twin(ratio(self.plain), ratio(self.side))


def ratio(fraction):
    return Ratio(fraction.numerator, fraction.denominator)


def fraction(value):
    """The Fraction of an INTEGER or a Ratio."""
    return Fraction(value) if isinstance(value, int) else Fraction(value.top, value.bottom)


def exact(value):
    if isinstance(value, Twin):
        return Exact(fraction(value.plain), fraction(value.side))
    return Exact(fraction(value))


def exacts(values):
    return [exact(one) for one in values]


def total(numbers):
    found = Exact(0)
    for number in numbers:
        found = found + number
    return found


def twins(numbers):
    return [one.twin() for one in numbers]


def trim(numbers):
    found = list(numbers)
    while found and found[-1].size() == 0:
        found.pop()
    return found


def convolved(first, second):
    found = [Exact(0) for _ in range(max(len(first) + len(second) - 1, 0))]
    for i, one in enumerate(first):
        for k, two in enumerate(second):
            found[i + k] = found[i + k] + one * two
    return found


def worth(curve, at):
    found = Exact(0)
    for one in reversed(curve):
        found = found * at + one
    return found


def as_tuples(value):
    """The same with tuples for all lists."""
    if isinstance(value, (list, tuple)):
        return tuple([as_tuples(one) for one in value])
    return value


def lists_in(value):
    """All lists and dicts in a value, itself too."""
    found = [value] if isinstance(value, (list, dict)) else []
    if isinstance(value, (list, tuple)):
        for one in value:
            found = found + lists_in(one)
    return found


# No VALUES, of many kinds; none of them is a list of numbers either.
ODD_VALUES = (
    True, False, None, "", "1", "1/2", b"1", [True], [[1]], [None], ["1"], (False,), {}, {1: 2}, {0: True},
    {1, 2}, object(), Ratio, Twin, len, range(2), ValueError("1"), 1 + 2j, Fraction(1, 2), [1, [2]], [(1, 2), 3],
)


class Chance:
    """Small numbers and lists of them, the same ones in each run."""

    def __init__(self, seed):
        self.source = random.Random(seed)

    def below(self, many):
        return self.source.randrange(many)

    def pick(self, values):
        return self.source.choice(values)

    def integer(self):
        return self.source.randint(-5, 5)

    def ratio(self):
        return Ratio(self.source.randint(-7, 7), self.source.randint(1, 6))

    def twin(self):
        return Twin(self.ratio(), self.ratio())

    def value(self):
        return self.pick((self.integer, self.ratio, self.twin, lambda: 0))()

    def values(self, many):
        return [self.value() for _ in range(many)]

    def curve(self, most):
        return self.values(self.below(most + 1))

    def point(self):
        return self.pick((0, Ratio(1, 2), Ratio(-1, 3), Twin(0, Ratio(1, 2)), Twin(Ratio(1, 2), Ratio(-1, 3))))

    def table(self, many):
        """A table of any signs, often with noughts at (i, i)."""
        rows = [[0] * many for _ in range(many)]
        for i in range(many):
            rows[i][i] = self.pick((0, self.integer(), self.ratio()))
            for j in range(i):
                one = self.value()
                rows[i][j] = one
                rows[j][i] = one.mirror() if isinstance(one, Twin) else one
        return rows

    def free_rows(self, many):
        """As many rows of weights, of which none is made of others."""
        rows = [[1 if i == j else 0 for j in range(many)] for i in range(many)]
        for _ in range(2 * many if many > 1 else 0):
            i = self.below(many)
            j = (i + 1 + self.below(many - 1)) % many
            by = self.pick((1, -1, Twin(0, 1), Twin(1, Ratio(1, 2)), 2))
            rows[i] = [one + two * by for one, two in zip(rows[i], rows[j])]
        return rows

    def signed_table(self, above, at, below):
        """A table of just these signs."""
        many = above + at + below
        numbers = [1 + self.below(3) for _ in range(above)] + [0] * at + [-1 - self.below(3) for _ in range(below)]
        rows = [exacts(row) for row in self.free_rows(many)]
        return [
            [
                total([left * exact(number) * right.mirror() for left, number, right in zip(one, numbers, two)]).twin()
                for two in rows
            ]
            for one in rows
        ]


    def small(self):
        """A VALUE of a size below 1."""
        return self.pick((0, Ratio(1, 2), Ratio(-2, 3), Twin(Ratio(1, 3), Ratio(1, 4)), Twin(0, Ratio(-3, 5)), HALF))

    def points(self, many):
        """So many unlike points."""
        return self.source.sample(POINTS, many)

    def shape(self, most):
        """How many answers a telling has at each point, at most so many together."""
        left = 1 + self.below(most)
        found = []
        while left > 0:
            found.append(1 + self.below(min(left, 4)))
            left = left - found[-1]
        return found

    def telling(self, shape):
        """A telling with so many answers at each point, often one that is not doable."""
        return [(point, [self.small() for _ in range(many)]) for point, many in zip(self.points(len(shape)), shape)]

    def steps(self, many):
        """So many steps, with 0 as the last number."""
        return [(self.pick(POINTS), self.small()) for _ in range(many)], 0


class Looks:
    """Looks at errors, for test cases."""

    def assert_error(self, wanted, call, *given, **attributes):
        """The call raises just this class, with just these attributes, of the same kinds."""
        with self.assertRaises(wanted) as held:
            call(*given)
        error = held.exception
        self.assertIs(error.__class__, wanted)
        self.assertEqual(sorted(vars(error)), sorted(attributes))
        for name, value in attributes.items():
            found = getattr(error, name)
            self.assertIs(found.__class__, value.__class__)
            self.assertTrue(found is value or found == value)

    def assert_answer(self, wanted, found):
        """A bool, and just this one."""
        self.assertIs(found.__class__, bool)
        self.assertIs(found, wanted)

    def assert_ratio(self, found, top, bottom=1):
        self.assertIs(found.__class__, Ratio)
        self.assertEqual((found.top, found.bottom), (top, bottom))

    def assert_twins(self, found):
        """A list of Twins."""
        self.assertIs(found.__class__, list)
        for one in found:
            self.assertIs(one.__class__, Twin)

    def assert_rows(self, found):
        """A list of lists of Twins."""
        self.assertIs(found.__class__, list)
        for row in found:
            self.assert_twins(row)

    def assert_told(self, found):
        """A told curve."""
        self.assert_twins(found)
        self.assertFalse(found and found[-1].is_nought)
