"""The rim, rim curves, and real roots (points 82 and 83)."""

import unittest
from fractions import Fraction

from neverlouder.boxes import Box
from neverlouder.built import box_of
from neverlouder.errors import InvalidBox, InvalidCurve, InvalidRatio, TooMany
from neverlouder.ratios import Ratio
from neverlouder.reals import is_somewhere_below, place_below, sign_at, whole_curve
from neverlouder.rims import is_nowhere_below, real_roots, rim_curve, rim_place
from neverlouder.twins import Twin
from tests.helper import HALF, ODD_VALUES, UNITS, Chance, Looks, exact, exacts, fraction, ratio, worth

PLACES = (0, 1, -1, 2, Ratio(1, 3), Ratio(-7, 5), 1000, Ratio(-1, 10 ** 6))
# Curves without real roots, above 0 all over.
ABOVE = ([1], [1, 0, 1], [1, 1, 1], [Ratio(5, 2), -3, 1], [1, 0, 0, 0, 1])
NO_REALS = ODD_VALUES + ([1, Twin(1)], [Twin(0, 1)], [1] * 42, [0] * 42, [1, True], ["1"], 1, Ratio(1), [None], [[1]])


def times(first, second):
    found = [Fraction(0)] * (len(first) + len(second) - 1)
    for i, one in enumerate(first):
        for k, two in enumerate(second):
            found[i + k] += fraction(one) * fraction(two)
    return [ratio(one) for one in found]


def with_roots(roots, by=1, above=(1,)):
    """The curve with just these real roots, so often as they stand there."""
    found = times([by], list(above))
    for one in roots:
        found = times(found, [-(Ratio(1) * one), 1])
    return found


class Places(Looks, unittest.TestCase):
    def test_rim_place(self):
        for t in PLACES:
            found = rim_place(t)
            self.assertIs(found.__class__, Twin)
            self.assertEqual(found, Twin(1, t).over(Twin(1, -(Ratio(1) * t))))
            self.assertEqual(found.size(), Ratio(1))
        self.assertEqual(rim_place(ratio=0), Twin(1))
        self.assertEqual(rim_place(Ratio(1)), Twin(0, 1))

    def test_all_others_are_such(self):
        for unit in UNITS:
            place = Twin(1) * unit
            if place != Twin(-1):
                self.assertEqual(rim_place(place.side.over(place.plain + 1)), place)

    def test_wrong(self):
        for value in ODD_VALUES + (Twin(0), Twin(1)):
            self.assert_error(InvalidRatio, rim_place, value, value=value)


class Curves(Looks, unittest.TestCase):
    def boxes(self, seed):
        chance = Chance(seed)
        found = [Box([], [1]), Box([3], [1]), Box([Twin(0, 1)], [1]), Box([0, 1], [2]), Box([1, 1], [2])]
        for many in (1, 2, 3, 5, 8):
            found.append(Box(chance.curve(many), [5] + chance.curve(many - 1)))
            found.append(box_of((chance.steps(many)[0], chance.pick(UNITS))))
            found.append(box_of((chance.steps(many)[0], HALF)))
        return found

    def test_by_words(self):
        for box in self.boxes(331):
            found = rim_curve(box)
            self.assertIs(found.__class__, list)
            self.assertEqual({one.__class__ for one in found} | {Ratio}, {Ratio})
            self.assertFalse(found and found[-1].sign == 0)
            self.assertLessEqual(len(found), 2 * box.degree + 1)
            top, base = [exacts(curve) for curve in box.curves()]
            for t in PLACES:
                at = exact(rim_place(t))
                wanted = worth(base, at).size() - worth(top, at).size()
                wanted = wanted * (1 + fraction(t) ** 2) ** box.degree
                self.assertEqual(worth(exacts(found), exact(t)).plain, wanted)

    def test_fewer_entries_if_alike_at_the_far_place(self):
        seen = []
        for box in self.boxes(332):
            top, base = [worth(exacts(curve), exact(-1)).size() for curve in box.curves()]
            seen.append(top == base)
            self.assertEqual(len(rim_curve(box)) < 2 * box.degree + 1, seen[-1])
        self.assertEqual({*seen}, {True, False})

    def test_boxes_that_keep_all_force(self):
        for many in (0, 1, 3, 8):
            for unit in UNITS:
                self.assertEqual(rim_curve(box_of(([(0, HALF)] * many, unit))), [])

    def test_by_hand(self):
        self.assertEqual(rim_curve(Box([0, 1], [2])), [Ratio(3, 4), Ratio(0), Ratio(3, 4)])
        self.assertEqual(rim_curve(box=Box([1, 1], [2])), [Ratio(0), Ratio(0), Ratio(1)])
        self.assertEqual(rim_curve(Box([1, -1], [2])), [Ratio(1)])
        self.assertEqual(rim_curve(Box([], [1])), [Ratio(1)])
        self.assertEqual(rim_curve(Box([2], [1])), [Ratio(-3)])

    def test_degrees(self):
        self.assertEqual(len(rim_curve(Box([0] * 8 + [1], [3]))), 17)
        for box in (Box([0] * 9 + [1], [3]), Box([1], [3] + [0] * 8 + [1]), Box([1] * 40, [2])):
            self.assert_error(TooMany, rim_curve, box, what="degree", limit=8)
        for value in ODD_VALUES:
            self.assert_error(InvalidBox, rim_curve, value, value=value)


class Roots(Looks, unittest.TestCase):
    def assert_roots(self, curve, roots):
        """Just these are the real roots, so often as they stand there; the curve is above 0 far above."""
        odd = [one for one in roots if roots.count(one) % 2 == 1]
        for by in (1, -1, Ratio(1, 3), Ratio(-7, 2)):
            scaled = times([by], curve)
            self.assertEqual(real_roots(scaled), len({str(one) for one in roots}))
            sign = (Ratio(1) * by).sign
            wanted = sign > 0 and not odd
            self.assert_answer(wanted, is_nowhere_below(scaled))
            self.assert_answer(wanted, is_nowhere_below(tuple(scaled) + (0, Ratio(0))))
            whole = whole_curve(scaled)
            self.assertEqual(is_somewhere_below(whole), not wanted)
            if not wanted:
                place = place_below(whole)
                self.assertIs(place.__class__, Ratio)
                self.assertEqual(sign_at(whole, place), -1)
                self.assertLess(worth(exacts(scaled), exact(place)).plain, 0)

    def test_known_roots(self):
        near = HALF + Ratio(1, 10 ** 9)
        for roots in (
            [], [0], [0, 0], [Ratio(-1, 3)], [-3, -3, -3], [HALF], [HALF, -3], [HALF, HALF], [HALF] * 3, [1, 1, 2, 2], [1, 1, 2], [1] * 4, [0, 0, 0, 1],
            [-1, -1, 0, 5, 5], [HALF, near], [HALF, HALF, near, near], [1, 1, 1, 3, 3, 3], [HALF, HALF, near],
            [10 ** 6, -(10 ** 6)], [0, 0, 1, 1, 2, 2, 3, 3], [Ratio(1, 7), 0, Ratio(1, 7), 0], [2, 2, 2, 2, 2, 3],
        ):
            for above in ABOVE:
                if len(roots) + len(above) <= 13:
                    self.assert_roots(with_roots(roots, 1, above), roots)

    def test_sixteen(self):
        self.assert_roots(with_roots([HALF] * 16), [HALF] * 16)
        self.assert_roots(with_roots(list(range(16))), list(range(16)))
        self.assert_roots(with_roots([1] * 5 + [2] * 5 + [3] * 6), [1] * 5 + [2] * 5 + [3] * 6)

    def test_roots_of_even_curves_that_are_no_fractions(self):
        self.assertEqual(real_roots([-2, 0, 1]), 2)
        self.assertEqual(real_roots([4, 0, -4, 0, 1]), 2)
        self.assert_answer(True, is_nowhere_below([4, 0, -4, 0, 1]))
        self.assert_answer(False, is_nowhere_below([-2, 0, 1]))
        self.assertEqual(real_roots([-2, 0, 0, 1]), 1)
        # The least worth is 0 at the root of 2, and a little below and above it beside.
        little = Ratio(1, 10 ** 9)
        self.assert_answer(False, is_nowhere_below([Ratio(4) - little, 0, -4, 0, 1]))
        self.assert_answer(True, is_nowhere_below([Ratio(4) + little, 0, -4, 0, 1]))
        self.assertEqual([real_roots([Ratio(4) - little, 0, -4, 0, 1]), real_roots([Ratio(4) + little, 0, -4, 0, 1])], [4, 0])

    def test_noughts(self):
        for curve in ([5], [5, 0, 0], [5] + [0] * 40, (Ratio(1, 3), Ratio(0))):
            self.assertEqual(real_roots(curve=curve), 0)
            self.assert_answer(True, is_nowhere_below(curve=curve))
        self.assert_answer(False, is_nowhere_below([-5, 0]))
        for curve in ([], (), [0], [0, Ratio(0)], [0] * 41):
            self.assert_answer(True, is_nowhere_below(curve))
            self.assert_error(InvalidCurve, real_roots, curve, value=curve)

    def test_degrees(self):
        for curve in ([1] + [0] * 16 + [1], [0] * 40 + [1], [1] * 41):
            self.assert_error(TooMany, real_roots, curve, what="degree", limit=16)
            self.assert_error(TooMany, is_nowhere_below, curve, what="degree", limit=16)
        self.assertEqual(real_roots([-1] + [0] * 15 + [1] + [0] * 24), 2)

    def test_wrong(self):
        for value in NO_REALS:
            self.assert_error(InvalidCurve, real_roots, value, value=value)
            self.assert_error(InvalidCurve, is_nowhere_below, value, value=value)


if __name__ == "__main__":
    unittest.main()
