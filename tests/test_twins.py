"""Numbers of two parts (points 5 and 12)."""

import unittest

from neverlouder.errors import DividedByZero, InvalidMany, InvalidNumber, InvalidRatio, TooMany
from neverlouder.ratios import Ratio
from neverlouder.twins import Twin, as_twin, is_point, is_unit, is_value
from tests.helper import ODD_VALUES, Chance, Exact, Looks, exact

NUMBERS = (
    0, 1, -3, Ratio(1, 2), Ratio(-5, 3), Twin(0), Twin(2), Twin(Ratio(-1, 2)), Twin(0, 1), Twin(0, Ratio(-2, 3)),
    Twin(1, 1), Twin(Ratio(3, 5), Ratio(4, 5)), Twin(Ratio(10 ** 12 - 1, 7), Ratio(-1, 10 ** 12 - 1)),
)


class Kinds(Looks, unittest.TestCase):
    def test_values(self):
        for value in NUMBERS:
            self.assert_answer(True, is_value(value))
        for value in ODD_VALUES + ([1], [Twin(1)], (Ratio(1),)):
            self.assert_answer(False, is_value(value))

    def test_points(self):
        near = Ratio(10 ** 12 - 1, 10 ** 12)
        for value in (0, Ratio(1, 2), Ratio(-1, 2), near, Twin(0, near), Twin(Ratio(3, 5), Ratio(3, 5)), Twin(0)):
            self.assert_answer(True, is_point(value))
        beyond = (1, -1, 2, Ratio(-3, 2), Twin(0, 1), Twin(Ratio(3, 5), Ratio(4, 5)), Twin(1, Ratio(1, 9)))
        for value in ODD_VALUES + beyond + ([0], (0,)):
            self.assert_answer(False, is_point(value))

    def test_units(self):
        for value in (1, -1, Ratio(-1), Twin(1), Twin(0, -1), Twin(Ratio(3, 5), Ratio(-4, 5))):
            self.assert_answer(True, is_unit(value))
        for value in ODD_VALUES + (0, 2, Ratio(1, 2), Twin(1, 1), Twin(Ratio(1, 2), Ratio(1, 2)), [1], (1,)):
            self.assert_answer(False, is_unit(value))

    def test_as_twin(self):
        for value in NUMBERS:
            found = as_twin(value)
            self.assertIs(found.__class__, Twin)
            self.assertEqual(found, exact(value).twin())
        self.assertEqual(as_twin(number=3), Twin(3))
        for value in ODD_VALUES + ([1], (Twin(1),)):
            self.assert_error(InvalidNumber, as_twin, value, value=value)


class Twins(Looks, unittest.TestCase):
    def test_parts(self):
        one = Twin(Ratio(1, 2), -3)
        self.assert_ratio(one.plain, 1, 2)
        self.assert_ratio(one.side, -3)
        self.assert_ratio(Twin(4).side, 0)
        self.assert_ratio(Twin(side=1, plain=2).plain, 2)
        for plain, side in ((0, 0), (1, 0), (0, 1), (Ratio(1, 3), Ratio(-1, 3))):
            self.assert_answer(side == 0, Twin(plain, side).is_plain)
            self.assert_answer(plain == 0 and side == 0, Twin(plain, side).is_nought)

    def test_sums_and_products(self):
        for one in [as_twin(number) for number in NUMBERS]:
            for two in NUMBERS:
                first, second = exact(one), exact(two)
                self.assert_same(one + two, first + second)
                self.assert_same(one - two, first - second)
                self.assert_same(one * two, first * second)
                if second.size() != 0:
                    self.assert_same(one.over(two), first / second)
                    self.assertEqual(one.over(two) * two, one)

    def assert_same(self, found, wanted):
        self.assertIs(found.__class__, Twin)
        self.assert_ratio(found.plain, wanted.plain.numerator, wanted.plain.denominator)
        self.assert_ratio(found.side, wanted.side.numerator, wanted.side.denominator)

    def test_integer_on_the_left(self):
        for one in [as_twin(number) for number in NUMBERS]:
            for left in (0, 1, -7):
                self.assert_same(left + one, Exact(left) + exact(one))
                self.assert_same(left - one, Exact(left) - exact(one))
                self.assert_same(left * one, Exact(left) * exact(one))

    def test_side_times_side(self):
        self.assertEqual(Twin(0, 1) * Twin(0, 1), Twin(-1))

    def test_mirrors_and_sizes(self):
        for one in [as_twin(number) for number in NUMBERS]:
            self.assert_same(-one, Exact(0) - exact(one))
            self.assert_same(one.mirror(), exact(one).mirror())
            size = exact(one).size()
            self.assert_ratio(one.size(), size.numerator, size.denominator)
            self.assertEqual(one * one.mirror(), Twin(one.size()))

    def test_powers(self):
        chance = Chance(1)
        for one in [Twin(0), Twin(0, 1), Twin(Ratio(1, 2), -1)] + [chance.twin() for _ in range(9)]:
            wanted = Exact(1)
            for many in range(9):
                self.assert_same(one.power(many), wanted)
                wanted = wanted * exact(one)
        self.assertEqual(Twin(0, 1).power(many=200), Twin(1))
        self.assertEqual(Twin(2).power(200), Twin(2 ** 200))

    def test_sums_of_lists(self):
        self.assertEqual(Twin.total([]), Twin(0))
        self.assertEqual(Twin.total(()), Twin(0))
        self.assert_same(Twin.total([1, Ratio(1, 2), Twin(0, -1), Twin(1, 3)]), Exact(1) * Exact("5/2") + Exact(0, 2))
        self.assertEqual(Twin.total(numbers=(Twin(0, 1), 2)), Twin(2, 1))

    def test_texts(self):
        half = Ratio(1, 2)
        texts = (
            (Twin(0), "0"), (Twin(-half), "-1/2"), (Twin(3), "3"), (Twin(0, 1), "1 i"), (Twin(0, -half), "-1/2 i"),
            (Twin(half, -3), "1/2 - 3 i"), (Twin(-1, half), "-1 + 1/2 i"), (Twin(-2, -half), "-2 - 1/2 i"),
        )
        for one, text in texts:
            self.assertEqual(str(one), text)
        self.assertEqual(repr(Twin(half, -3)), "Twin(Ratio(1, 2), Ratio(-3, 1))")
        self.assertEqual(repr([Twin(0)]), "[Twin(Ratio(0, 1), Ratio(0, 1))]")

    def test_equal(self):
        self.assert_answer(True, Twin(1, Ratio(1, 2)) == Twin(Ratio(2, 2), Ratio(2, 4)))
        self.assert_answer(False, Twin(1) != Twin(1, 0))
        for other in ODD_VALUES + (1, Ratio(1), Twin(-1), Twin(1, 1), Twin(0, 1)):
            self.assert_answer(False, Twin(1) == other)
            self.assert_answer(True, Twin(1) != other)

    def test_never_changes(self):
        one = Twin(1, 2)
        for name in ("plain", "side", "is_plain", "is_nought"):
            with self.assertRaises(AttributeError):
                setattr(one, name, 3)
        more = one
        more *= 2
        self.assertEqual((one, more), (Twin(1, 2), Twin(2, 4)))


class WrongTwins(Looks, unittest.TestCase):
    def test_parts(self):
        for value in ODD_VALUES + (Twin(1), [1]):
            self.assert_error(InvalidRatio, Twin, value, value=value)
            self.assert_error(InvalidRatio, Twin, value, None, value=value)
            self.assert_error(InvalidRatio, Twin, Ratio(1), value, value=value)

    def test_others(self):
        one = Twin(1, 2)
        calls = (lambda value: one + value, lambda value: one - value, lambda value: one * value, one.over)
        for call in calls:
            for value in ODD_VALUES + ([1], (Twin(1),)):
                self.assert_error(InvalidNumber, call, value, value=value)

    def test_twin_behind_ratio(self):
        for value in (Twin(1), Twin(0, 1)):
            self.assert_error(InvalidRatio, lambda right: Ratio(1) + right, value, value=value)

    def test_divided_by_zero(self):
        for value in (0, Ratio(0), Twin(0)):
            self.assert_error(DividedByZero, Twin(1, 2).over, value)
            self.assert_error(DividedByZero, Twin(0).over, value)

    def test_powers(self):
        for value in ODD_VALUES + (-1, -201, Ratio(1), Twin(1)):
            self.assert_error(InvalidMany, Twin(1, 2).power, value, value=value)
        for value in (201, 10 ** 12):
            self.assert_error(TooMany, Twin(0).power, value, what="power", limit=200)

    def test_lists(self):
        for value in ({}, {1: 2}, "12", None, True, 3, Ratio(1), Twin(1), range(3), {1}):
            self.assert_error(InvalidNumber, Twin.total, value, value=value)
        for value in ODD_VALUES + ([1],):
            self.assert_error(InvalidNumber, Twin.total, [1, Twin(1), value, None], value=value)
            self.assert_error(InvalidNumber, Twin.total, (value, True), value=value)


if __name__ == "__main__":
    unittest.main()
