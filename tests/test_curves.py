"""Curves (points 6, 13 to 16)."""

import unittest

from neverlouder import curves
from neverlouder.curves import (
    common, degree, derived, divided, is_curve, leading, minus, mirrored, moved, plus, scaled, times, told, turned,
    worth_at,
)
from neverlouder.errors import InvalidCurve, InvalidMany, InvalidNumber, NoughtCurve, TooMany, TooShort
from neverlouder.ratios import Ratio
from neverlouder.twins import Twin
from tests.helper import ODD_VALUES, Chance, Exact, Looks, convolved, exact, exacts, trim, twins, worth

NOUGHTS = ([], [0], [0, Ratio(0), Twin(0)], (), (0,), [0] * 41)
# Noughts at the beginning, within, and at the end.
MIXED = (
    [1], [0, 1], [0, 0, Twin(0, 1)], [1, 0, 0, 2], [1, 2, 0], [0, Ratio(1, 2), 0, 0], [0, 3, 0, Twin(1, -1), 0],
    [Twin(1, 2), 3], [Ratio(1, 3), 0, Twin(0, Ratio(-2, 5)), 4],
)
CURVES = NOUGHTS + MIXED


def samples(seed, many, most=6):
    chance = Chance(seed)
    return [chance.curve(most) for _ in range(many)]


def wanted_sum(one, two, sign):
    many = max(len(one), len(two))
    first = exacts(list(one) + [0] * (many - len(one)))
    second = exacts(list(two) + [0] * (many - len(two)))
    return twins(trim([up + Exact(sign) * down for up, down in zip(first, second)]))


class ToldCurves(Looks, unittest.TestCase):
    def test_which_are_curves(self):
        for value in CURVES + ([1] * 41,):
            self.assert_answer(True, is_curve(value))
        for value in ODD_VALUES + (1, Ratio(1), Twin(1), [1] * 42, [0] * 42, "12", [1, True], (1, None)):
            self.assert_answer(False, is_curve(value))

    def test_told(self):
        for curve in CURVES:
            found = told(curve)
            self.assert_told(found)
            self.assertEqual(found, twins(trim(exacts(curve))))

    def test_degree_and_leading(self):
        for curve in NOUGHTS:
            self.assertEqual((told(curve), degree(curve), leading(curve)), ([], -1, Twin(0)))
        for curve in MIXED:
            wanted = trim(exacts(curve))
            self.assertEqual(degree(curve), len(wanted) - 1)
            self.assertEqual(leading(curve), wanted[-1].twin())
        self.assertEqual(degree([1] * 41), 40)

    def test_sums_and_differences(self):
        some = list(CURVES) + samples(1, 12)
        for one in some:
            for two in some:
                for call, sign in ((plus, 1), (minus, -1)):
                    found = call(one, two)
                    self.assert_told(found)
                    self.assertEqual(found, wanted_sum(one, two, sign))

    def test_leading_ones_go_out(self):
        self.assertEqual(plus([1, 2, 3], [1, -2, -3]), [Twin(2)])
        self.assertEqual(minus([1, Twin(0, 1)], (1, Twin(0, 1))), [])

    def test_products(self):
        some = [one for one in CURVES if len(one) < 21] + samples(2, 12)
        for one in some:
            for two in some:
                found = times(one, two)
                self.assert_told(found)
                self.assertEqual(found, twins(trim(convolved(exacts(one), exacts(two)))))

    def test_greatest_product(self):
        self.assertEqual(degree(times([0] * 20 + [1], [0] * 20 + [2])), 40)
        self.assertEqual(times([1] * 41, [2, 0]), [Twin(2)] * 41)
        self.assertEqual(times([1] * 41, [0] * 41), [])
        for one, two in (([0] * 20 + [1], [0] * 21 + [1]), ([1] * 41, [0, 1]), ([0, 1], [1] * 41)):
            self.assert_error(TooMany, times, one, two, what="degree", limit=40)

    def test_multiples(self):
        for curve in CURVES:
            for number in (0, 1, Ratio(-1, 2), Twin(1, 2)):
                found = scaled(curve, number)
                self.assert_told(found)
                self.assertEqual(found, twins(trim([one * exact(number) for one in exacts(curve)])))

    def test_worths(self):
        for curve in CURVES:
            for number in (0, 1, -2, Ratio(1, 2), Twin(0, 1), Twin(Ratio(1, 3), -1)):
                found = worth_at(curve, number)
                self.assertIs(found.__class__, Twin)
                self.assertEqual(found, worth(exacts(curve), exact(number)).twin())


class Divided(Looks, unittest.TestCase):
    def test_quotient_and_rest(self):
        some = list(MIXED) + [[], [0, 0]] + samples(3, 20)
        for one in some:
            for two in some:
                if degree(two) >= 0:
                    self.assert_divided(one, two)

    def assert_divided(self, one, two):
        found = divided(one, two)
        self.assertIs(found.__class__, tuple)
        quotient, rest = found
        self.assert_told(quotient)
        self.assert_told(rest)
        self.assertEqual(plus(times(two, quotient), rest), told(one))
        self.assertLess(degree(rest), degree(two))

    def test_by_a_number(self):
        self.assertEqual(divided([2, 4], [2]), ([Twin(1), Twin(2)], []))
        self.assertEqual(divided([1, 2], [0, 0, 1]), ([], [Twin(1), Twin(2)]))
        self.assertEqual(divided([], [1, 1, 0]), ([], []))

    def test_by_nought(self):
        for nought in NOUGHTS:
            self.assert_error(NoughtCurve, divided, [1, 2], nought)
            self.assert_error(NoughtCurve, divided, nought, nought)


class Common(Looks, unittest.TestCase):
    def assert_common(self, one, two, wanted):
        found = common(one, two)
        self.assert_told(found)
        self.assertEqual(found, wanted)
        self.assertEqual(common(two, one), wanted)

    def test_both_nought(self):
        for one in NOUGHTS:
            for two in NOUGHTS:
                self.assert_common(one, two, [])

    def test_one_nought(self):
        for curve in MIXED:
            wanted = scaled(curve, Twin(1).over(leading(curve)))
            for nought in NOUGHTS:
                self.assert_common(curve, nought, wanted)

    def test_numbers(self):
        self.assert_common([3], [Twin(0, 2)], [Twin(1)])
        self.assert_common([Ratio(1, 2)], [1, 2, 3], [Twin(1)])

    def test_multiples(self):
        for curve in MIXED:
            wanted = scaled(curve, Twin(1).over(leading(curve)))
            for other in ([2], [Twin(0, 1)], [1, 1], [0, 0, Twin(2, 3)]):
                self.assert_common(curve, times(curve, other), wanted)

    def test_parts_of_two(self):
        # What stands in front has no part in common: 1 + x and 2 + x + x x.
        for curve in MIXED:
            one = times(curve, [1, 1])
            two = times(curve, [2, 1, 1])
            self.assert_common(one, two, scaled(curve, Twin(1).over(leading(curve))))

    def test_greatest(self):
        for one, two in zip(samples(4, 30, 4), samples(5, 30, 4)):
            shared = [1, Twin(0, 1), Ratio(1, 2)]
            found = common(times(one, shared), times(two, shared))
            self.assertEqual(found, curves.common_by_rests(told(times(one, shared)), told(times(two, shared))))
            if degree(one) >= 0 or degree(two) >= 0:
                self.assertEqual(leading(found), Twin(1))
                self.assertEqual(divided(times(one, shared), found)[1], [])
                self.assertEqual(divided(times(two, shared), found)[1], [])

    def test_long_numbers(self):
        chance = Chance(6)
        great = 10 ** 12 - 1

        def number():
            return Twin(Ratio(chance.below(great), 1 + chance.below(great)), Ratio(chance.below(great), great))

        for many in (2, 5, 10):
            one, two, shared = [[number() for _ in range(many)] + [Twin(1)] for _ in range(3)]
            self.assert_common(times(one, shared), times(two, shared), shared)

    def test_degree_40(self):
        one = times([1] * 21, [0] * 20 + [1])
        self.assert_common(one, [0] * 40 + [5], [Twin(0)] * 20 + [Twin(1)])
        self.assert_common([1] * 41, [1] * 40, [Twin(1)])


class Changed(Looks, unittest.TestCase):
    def test_derived(self):
        self.assertEqual(derived([5, 1, Ratio(1, 2), Twin(0, 1)]), [Twin(1), Twin(1), Twin(0, 3)])
        for curve in CURVES:
            found = derived(curve)
            self.assert_told(found)
            entries = exacts(curve)
            self.assertEqual(found, twins(trim([entries[k] * Exact(k) for k in range(1, len(entries))])))

    def test_moved(self):
        for curve in list(CURVES) + samples(7, 8):
            for number in (0, 1, Ratio(-1, 2), Twin(1, -1)):
                found = moved(curve, number)
                self.assert_told(found)
                self.assertEqual(degree(found), degree(curve))
                for at in (0, 1, Ratio(2, 3), Twin(0, 2), -4, Twin(1, 1)):
                    there = exact(at) + exact(number)
                    self.assertEqual(worth_at(found, at), worth(exacts(curve), there).twin())

    def test_mirrored(self):
        for curve in CURVES:
            found = mirrored(curve)
            self.assert_told(found)
            self.assertEqual(found, twins(trim([one.mirror() for one in exacts(curve)])))

    def test_turned(self):
        for curve in CURVES:
            for many in range(max(degree(curve), 0), 9):
                found = turned(curve, many)
                self.assert_told(found)
                entries = exacts(told(curve)) + [Exact(0)] * (many - degree(curve))
                self.assertEqual(found, twins(trim([entries[many - k].mirror() for k in range(many + 1)])))
                self.assertEqual(turned(found, many), told(curve))

    def test_turned_worths(self):
        for curve in MIXED:
            for at in (1, Twin(0, 1), Twin(Ratio(3, 5), Ratio(-4, 5))):
                self.assertEqual(worth_at(turned(curve, 5), at).size(), worth_at(curve, at).size())
            at = Twin(2, 1)
            there = worth_at(curve, Twin(1).over(at.mirror())).mirror()
            self.assertEqual(worth_at(turned(curve, 5), at), at.power(5) * there)

    def test_turned_limits(self):
        self.assertEqual(turned([], 0), [])
        self.assertEqual(turned([0, 0], 40), [])
        self.assertEqual(turned([2], 40), [Twin(0)] * 40 + [Twin(2)])
        self.assertEqual(turned([1, 2, 0], 1), [Twin(2), Twin(1)])
        for many in (0, 1):
            self.assert_error(TooShort, turned, [0, 0, 1], many, many=many)
        for many in (41, 10 ** 12):
            self.assert_error(TooMany, turned, [1, 2], many, what="degree", limit=40)
            self.assert_error(TooMany, turned, [], many, what="degree", limit=40)

    def test_wrong_counts(self):
        for value in ODD_VALUES + (-1, Ratio(1), Twin(3)):
            self.assert_error(InvalidMany, turned, [1, 2], value, value=value)
            self.assert_error(InvalidCurve, turned, [None], value, value=[None])

    def test_limits_of_length(self):
        for call in (told, degree, leading, derived, mirrored):
            for value in ([0] * 42, [1] * 42, (1,) * 60):
                self.assert_error(InvalidCurve, call, value, value=value)

    def test_wrong_numbers(self):
        for call in (scaled, worth_at, moved):
            for value in ODD_VALUES + ([1],):
                self.assert_error(InvalidNumber, call, [], value, value=value)


if __name__ == "__main__":
    unittest.main()
