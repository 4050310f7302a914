"""INTEGERS, COUNTS and Ratios (point 11)."""

import unittest
from fractions import Fraction

from neverlouder.basics import is_count, is_integer
from neverlouder.errors import DividedByZero, InvalidRatio
from neverlouder.ratios import Ratio, is_ratio
from neverlouder.twins import Twin
from tests.helper import ODD_VALUES, Looks, fraction

GREAT = 10 ** 12 - 1
PARTS = ((0, 1), (1, 1), (-1, 1), (1, 2), (-1, 2), (2, -3), (-4, -6), (6, 4), (0, -5), (7, 1), (GREAT, GREAT - 1))


class Kinds(Looks, unittest.TestCase):
    def test_integers(self):
        for value in (0, 1, -1, 10 ** 30):
            self.assert_answer(True, is_integer(value))
        for value in ODD_VALUES + (Ratio(1), Twin(1)):
            self.assert_answer(False, is_integer(value))

    def test_counts(self):
        for value in (0, 1, 10 ** 30):
            self.assert_answer(True, is_count(value))
        for value in ODD_VALUES + (-1, -10 ** 30, Ratio(1), Twin(1)):
            self.assert_answer(False, is_count(value))

    def test_ratios(self):
        for value in (0, -1, 10 ** 30, Ratio(1), Ratio(-1, 2)):
            self.assert_answer(True, is_ratio(value))
        for value in ODD_VALUES + (Twin(1), [1], [Ratio(1)]):
            self.assert_answer(False, is_ratio(value))


class Ratios(Looks, unittest.TestCase):
    def test_lowest_terms(self):
        for top, bottom in PARTS:
            one = Ratio(top, bottom)
            wanted = Fraction(top, bottom)
            self.assert_ratio(one, wanted.numerator, wanted.denominator)
            self.assertEqual(one.sign, (wanted > 0) - (wanted < 0))
            self.assertIs(one.sign.__class__, int)
            self.assert_answer(wanted.denominator == 1, one.is_whole)

    def test_bottom_left_out(self):
        self.assert_ratio(Ratio(-3), -3)
        self.assert_ratio(Ratio(top=4, bottom=-6), -2, 3)

    def test_sums_and_products(self):
        for one in [Ratio(*parts) for parts in PARTS]:
            for two in [Ratio(*parts) for parts in PARTS] + [0, 3, -GREAT]:
                first, second = fraction(one), fraction(two)
                self.assert_same(one + two, first + second)
                self.assert_same(one - two, first - second)
                self.assert_same(one * two, first * second)
                self.assert_answer(first < second, one.is_below(two))
                self.assert_answer(first <= second, one.is_at_most(two))
                if second != 0:
                    self.assert_same(one.over(two), first / second)

    def assert_same(self, found, wanted):
        self.assert_ratio(found, wanted.numerator, wanted.denominator)

    def test_integer_on_the_left(self):
        for one in [Ratio(*parts) for parts in PARTS]:
            for left in (0, 1, -3, GREAT):
                self.assert_same(left + one, left + fraction(one))
                self.assert_same(left - one, left - fraction(one))
                self.assert_same(left * one, left * fraction(one))

    def test_signs(self):
        for one in [Ratio(*parts) for parts in PARTS]:
            self.assert_same(-one, -fraction(one))
            self.assert_same(one.unsigned(), abs(fraction(one)))

    def test_sums_of_lists(self):
        self.assert_ratio(Ratio.sum_of([]), 0)
        self.assert_ratio(Ratio.sum_of(()), 0)
        self.assert_ratio(Ratio.sum_of([Ratio(1, 2), 3, Ratio(-1, 3)]), 19, 6)
        self.assert_ratio(Ratio.sum_of(ratios=(2, 3)), 5)

    def test_texts(self):
        for one, text in ((Ratio(3, 2), "3/2"), (Ratio(-3, 2), "-3/2"), (Ratio(4, 2), "2"), (Ratio(0), "0")):
            self.assertEqual(str(one), text)
        self.assertEqual(repr(Ratio(6, 4)), "Ratio(3, 2)")
        self.assertEqual(repr(Ratio(-2)), "Ratio(-2, 1)")
        self.assertEqual(repr([Ratio(0, -3)]), "[Ratio(0, 1)]")

    def test_equal(self):
        self.assert_answer(True, Ratio(1, 2) == Ratio(-2, -4))
        self.assert_answer(False, Ratio(1, 2) != Ratio(2, 4))
        for other in ODD_VALUES + (1, Twin(1), Ratio(2), Ratio(-1), Ratio(1, 2)):
            self.assert_answer(False, Ratio(1) == other)
            self.assert_answer(True, Ratio(1) != other)

    def test_never_changes(self):
        one = Ratio(1, 2)
        for name in ("top", "bottom", "sign", "is_whole"):
            with self.assertRaises(AttributeError):
                setattr(one, name, 3)
        many = one
        many += 1
        self.assertEqual((one, many), (Ratio(1, 2), Ratio(3, 2)))


class WrongRatios(Looks, unittest.TestCase):
    def test_parts(self):
        for value in ODD_VALUES + (Ratio(1), Twin(1)):
            self.assert_error(InvalidRatio, Ratio, value, value=value)
            self.assert_error(InvalidRatio, Ratio, value, 0, value=value)
            self.assert_error(InvalidRatio, Ratio, value, None, value=value)
            self.assert_error(InvalidRatio, Ratio, 1, value, value=value)
        self.assert_error(InvalidRatio, Ratio, 1, 0, value=0)
        self.assert_error(InvalidRatio, Ratio, 0, 0, value=0)

    def test_others(self):
        calls = (
            lambda value: Ratio(1, 2) + value, lambda value: Ratio(1, 2) - value, lambda value: Ratio(1, 2) * value,
            Ratio(1, 2).over, Ratio(1, 2).is_below, Ratio(1, 2).is_at_most,
        )
        for call in calls:
            for value in ODD_VALUES + (Twin(1), Twin(0)):
                self.assert_error(InvalidRatio, call, value, value=value)

    def test_divided_by_zero(self):
        self.assert_error(DividedByZero, Ratio(1, 2).over, 0)
        self.assert_error(DividedByZero, Ratio(0).over, Ratio(0, -3))

    def test_lists(self):
        for value in ({}, {1: 2}, "12", None, True, 3, Ratio(1), range(3), {1}):
            self.assert_error(InvalidRatio, Ratio.sum_of, value, value=value)
        for value in ODD_VALUES + (Twin(1),):
            self.assert_error(InvalidRatio, Ratio.sum_of, [1, value, None, Twin(2)], value=value)
            self.assert_error(InvalidRatio, Ratio.sum_of, (value,), value=value)


if __name__ == "__main__":
    unittest.main()
