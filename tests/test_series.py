"""Series (point 17)."""

import unittest

from neverlouder.curves import moved, times
from neverlouder.errors import InvalidCurve, InvalidMany, InvalidNumber, NoughtStart, TooMany
from neverlouder.ratios import Ratio
from neverlouder.series import product_series, quotient_at, quotient_series, series_at
from neverlouder.twins import Twin
from tests.helper import ODD_VALUES, Chance, Exact, Looks, convolved, exacts, total, twins

UPPERS = ([], [0], [1], [0, 0, 2], [1, 2, 3, 0], [Twin(1, 2), 0, Ratio(1, 3)], [1] * 41)
LOWERS = ([1], [2, 1], [1, 0, 0], [Twin(0, 1), 1, Ratio(-1, 2)], [Ratio(1, 2), 0, 0, 1])
COUNTS = (0, 1, 2, 7)


def entry(numbers, at):
    return numbers[at] if at < len(numbers) else Exact(0)


def wanted_series(upper, lower, many):
    found = []
    for n in range(many):
        taken = total([entry(lower, k) * found[n - k] for k in range(1, n + 1)])
        found.append((entry(upper, n) - taken) / lower[0])
    return twins(found)


class Quotients(Looks, unittest.TestCase):
    def test_series(self):
        for upper in UPPERS:
            for lower in LOWERS:
                for many in COUNTS:
                    found = quotient_series(upper, lower, many)
                    self.assert_twins(found)
                    self.assertEqual(found, wanted_series(exacts(upper), exacts(lower), many))

    def test_times_the_lower_one(self):
        chance = Chance(11)
        for _ in range(20):
            upper = chance.curve(5)
            lower = [chance.pick((1, Twin(1, 1), -2))] + chance.curve(4)
            found = exacts(quotient_series(upper, lower, 9))
            again = convolved(found, exacts(lower))[:9]
            self.assertEqual(twins(again), twins((exacts(upper) + [Exact(0)] * 9)[:9]))

    def test_greatest_count(self):
        self.assertEqual(quotient_series([1], [1, -1], 60), [Twin(1)] * 60)
        self.assertEqual(quotient_series([], [3], 60), [Twin(0)] * 60)

    def test_at(self):
        for upper in UPPERS[:-1]:
            for lower in LOWERS:
                for number in (0, 1, Ratio(-1, 3), Twin(1, 1)):
                    found = quotient_at(upper, lower, number, 5)
                    self.assert_twins(found)
                    there = (exacts(moved(upper, number)), exacts(moved(lower, number)))
                    self.assertEqual(found, wanted_series(*there, 5))

    def test_at_goes_on(self):
        # 1 / (1 - x) near 1/2 is 2 + 4 t + 8 t t + ..
        self.assertEqual(quotient_at([1], [1, -1], Ratio(1, 2), 4), [Twin(2), Twin(4), Twin(8), Twin(16)])
        self.assertEqual(quotient_at([0, 1], [0, 1], 1, 3), [Twin(1), Twin(0), Twin(0)])
        self.assertEqual(quotient_at([1], [1], 5, 0), [])

    def test_nought_start(self):
        for lower in ([], [0], (), [0, 1], [Twin(0), 0, 2]):
            for many in (0, 3, 60, 61):
                self.assert_error(NoughtStart, quotient_series, [1], lower, many)
        for lower, number in (([], 1), ([0, 0], 2), ([0, 1], 0), ([1, -1], 1), ([1, 0, 1], Twin(0, 1))):
            for many in (0, 3, 60, 61):
                self.assert_error(NoughtStart, quotient_at, [1], lower, number, many)

    def test_too_many(self):
        for many in (61, 10 ** 12):
            self.assert_error(TooMany, quotient_series, [1], [1, 1], many, what="many", limit=60)
            self.assert_error(TooMany, quotient_at, [1], [0, 1], 1, many, what="many", limit=60)


class Products(Looks, unittest.TestCase):
    def test_products(self):
        for one in UPPERS:
            for two in LOWERS + UPPERS:
                for many in COUNTS + (60,):
                    found = product_series(one, two, many)
                    self.assert_twins(found)
                    wanted = (convolved(exacts(one), exacts(two)) + [Exact(0)] * many)[:many]
                    self.assertEqual(found, twins(wanted))

    def test_beyond_degree_40(self):
        found = product_series([0] * 40 + [1], [0] * 15 + [2], 60)
        self.assertEqual(found, [Twin(0)] * 55 + [Twin(2)] + [Twin(0)] * 4)

    def test_moved(self):
        for curve in UPPERS:
            for number in (0, 1, Ratio(1, 2), Twin(0, -1)):
                for many in COUNTS + (60,):
                    found = series_at(curve, number, many)
                    self.assert_twins(found)
                    wanted = (moved(curve, number) + [Twin(0)] * many)[:many]
                    self.assertEqual(found, wanted)

    def test_moved_by_hand(self):
        self.assertEqual(series_at([0, 0, 1], 3, 2), [Twin(9), Twin(6)])
        self.assertEqual(product_series([1, 1], [1, 1], 2), times([1, 1], [1, 1])[:2])

    def test_too_many(self):
        for many in (61, 10 ** 12):
            self.assert_error(TooMany, product_series, [], [1], many, what="many", limit=60)
            self.assert_error(TooMany, series_at, [], 0, many, what="many", limit=60)


class Sequence(Looks, unittest.TestCase):
    def test_first_bad_one_decides(self):
        bad = [None]
        for value in ODD_VALUES + (-1, Ratio(1), Twin(1)):
            self.assert_error(InvalidMany, quotient_series, [1], [0], value, value=value)
            self.assert_error(InvalidMany, quotient_at, [1], [0], 0, value, value=value)
            self.assert_error(InvalidMany, product_series, [1], [0], value, value=value)
            self.assert_error(InvalidMany, series_at, [1], 0, value, value=value)
            self.assert_error(InvalidCurve, quotient_series, [1], bad, value, value=bad)
            self.assert_error(InvalidCurve, quotient_at, bad, value, value, value, value=bad)
        for value in ODD_VALUES + ([1],):
            self.assert_error(InvalidNumber, quotient_at, [1], [0], value, -1, value=value)
            self.assert_error(InvalidNumber, series_at, [1], value, -1, value=value)


if __name__ == "__main__":
    unittest.main()
