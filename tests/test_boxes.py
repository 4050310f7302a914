"""Boxes (points 7, 31 and 32)."""

import unittest

from neverlouder.boxes import Box
from neverlouder.curves import common, degree, moved, scaled, times, worth_at
from neverlouder.errors import InvalidCurve, InvalidMany, InvalidPoint, NoughtStart, NoWorth
from neverlouder.played import answers
from neverlouder.ratios import Ratio
from neverlouder.series import quotient_at
from neverlouder.twins import Twin
from tests.helper import ODD_VALUES, Chance, Looks, exact, exacts, worth

HALF = Ratio(1, 2)
SHARED = ([2], [Twin(0, 1)], [1, 1], [2, Twin(0, -1), HALF], [1, 0, 0, 5], [1, -2])
TOPS = ([], [0], [1], [0, 2], [1, Twin(0, 1)], [HALF, 0, 3, 0])
BASES = ([1], [4, 2], [Twin(1, 1), 0, 0], [1, 0, HALF], [1, -2], [Twin(0, 1), 1, Ratio(-1, 3)])
# 1 - 2 x and 1 + 4 x x are 0 at points; 1 - x and 2 + x are not.
ROOTS = (([1, -2], HALF), ([1, 0, 4], Twin(0, HALF)), ([Twin(1, 1), Twin(-2, -2)], HALF))
BOX = Box([0, 2], [4, 2])


def boxes(seed, many):
    chance = Chance(seed)
    return [Box(chance.curve(4), [chance.pick((1, -2, Twin(1, 1)))] + chance.curve(4)) for _ in range(many)]


class LowestTerms(Looks, unittest.TestCase):
    def assert_lowest(self, box):
        found = box.curves()
        self.assertIs(found.__class__, tuple)
        top, base = found
        self.assert_told(top)
        self.assert_told(base)
        self.assertEqual(base[0], Twin(1))
        self.assertEqual(degree(common(top, base)), 0)
        self.assertIs(box.degree.__class__, int)
        self.assertEqual(box.degree, max(degree(top), degree(base)))

    def test_curves(self):
        for top in TOPS:
            for base in BASES:
                box = Box(top, base)
                self.assert_lowest(box)
                # The same fraction: top by the told base is base by the told top.
                self.assertEqual(times(top, box.curves()[1]), times(base, box.curves()[0]))

    def test_same_fraction(self):
        for top in TOPS:
            for base in BASES:
                for part in SHARED:
                    one, two = Box(top, base), Box(times(top, part), times(base, part))
                    self.assert_answer(True, one == two)
                    self.assert_answer(False, one != two)
                    self.assertEqual(one.curves(), two.curves())
                    self.assertEqual(one.degree, two.degree)
                    self.assertEqual(repr(one), repr(two))

    def test_without_top(self):
        for top in ([], [0], (0, Twin(0))):
            for base in BASES:
                box = Box(top, base)
                self.assertEqual(box.curves(), ([], [Twin(1)]))
                self.assertEqual(box.degree, 0)
                self.assertEqual(repr(box), "Box([], [Twin(Ratio(1, 1), Ratio(0, 1))])")

    def test_unlike(self):
        some = [Box([1], [1]), Box([1], [1, 2]), Box([2], [1]), Box([1], [2, 1]), Box([0, 1], [1]), Box([], [1])]
        for i, one in enumerate(some):
            for j, two in enumerate(some):
                self.assert_answer(i == j, one == two)
                self.assert_answer(i != j, one != two)
        for value in ODD_VALUES + (1, Ratio(1), Twin(1), [[1], [1]], ([1], [1]), ([Twin(1)], [Twin(1)])):
            self.assert_answer(False, Box([1], [1]) == value)
            self.assert_answer(True, Box([1], [1]) != value)

    def test_degrees(self):
        wanted = ((BOX, 1), (Box([1], [1]), 0), (Box([0, 0, 3], [1, 1]), 2), (Box([1], [1, 0, 0, 1]), 3))
        for box, many in wanted + ((Box([0] * 40 + [1], [1]), 40), (Box([1] * 41, [1] * 40), 40)):
            self.assertEqual(box.degree, many)

    def test_repr(self):
        self.assertEqual(
            repr(Box([0, 2], [4, 2])),
            "Box([Twin(Ratio(0, 1), Ratio(0, 1)), Twin(Ratio(1, 2), Ratio(0, 1))], "
            "[Twin(Ratio(1, 1), Ratio(0, 1)), Twin(Ratio(1, 2), Ratio(0, 1))])",
        )

    def test_never_changes(self):
        top, base = [0, 2], [4, 2]
        box = Box(top=top, base=base)
        top.append(5)
        base[0] = 1
        self.assertEqual(box, BOX)
        held = box.curves()
        held[0].append(Twin(1))
        held[1].clear()
        self.assertEqual(box, BOX)
        self.assertIsNot(box.curves()[0], box.curves()[0])
        with self.assertRaises(AttributeError):
            box.degree = 3

    def test_wrong(self):
        for value in ODD_VALUES + (1, Twin(1), [1] * 42, [0] * 42):
            self.assert_error(InvalidCurve, Box, value, [0], value=value)
            self.assert_error(InvalidCurve, Box, value, None, value=value)
            self.assert_error(InvalidCurve, Box, [1], value, value=value)
        for base in ([], [0], (0, 0), [0, 1], [Twin(0), 1], [0] * 41):
            self.assert_error(NoughtStart, Box, [1], base)
            self.assert_error(NoughtStart, Box, [0, 1], base)


class Worths(Looks, unittest.TestCase):
    def test_worths(self):
        for box in boxes(61, 30) + [BOX]:
            for point in (0, HALF, Twin(0, Ratio(-2, 3)), Ratio(-9, 10)):
                top, base = [exacts(curve) for curve in box.curves()]
                below = worth(base, exact(point))
                if below.size() != 0:
                    found = box.worth(point)
                    self.assertIs(found.__class__, Twin)
                    self.assertEqual(found, (worth(top, exact(point)) / below).twin())
                else:
                    self.assert_error(NoWorth, box.worth, point, point=point)

    def test_by_hand(self):
        self.assertEqual(BOX.worth(HALF), Twin(Ratio(1, 5)))
        self.assertEqual(BOX.worth(point=0), Twin(0))
        self.assertEqual(Box([1, 2], [2, 1]).worth(Twin(HALF)), Twin(Ratio(4, 5)))

    def test_no_worth(self):
        for base, point in ROOTS:
            for top in ([1], [3, 1], [1, Twin(0, 1)]):
                box = Box(top, base)
                self.assert_error(NoWorth, box.worth, point, point=point)
                for many in (0, 1, 8):
                    self.assert_error(NoWorth, box.around, point, many, point=point)

    def test_root_in_common(self):
        for base, point in ROOTS:
            for top in ([], [1], [3, 1]):
                box = Box(times(top, base), times([2, 1], base))
                self.assertEqual(box.worth(point), Box(top, [2, 1]).worth(point))
                self.assertEqual(box.around(point, 4), Box(top, [2, 1]).around(point, 4))

    def test_root_twice_below(self):
        root = [1, -2]
        box = Box(root, times(root, root))
        self.assert_error(NoWorth, box.worth, HALF, point=HALF)

    def test_wrong_points(self):
        for value in ODD_VALUES + (1, -1, Ratio(3, 2), Twin(0, 1), Twin(Ratio(3, 5), Ratio(4, 5)), [0]):
            self.assert_error(InvalidPoint, BOX.worth, value, value=value)
            self.assert_error(InvalidPoint, BOX.around, value, -1, value=value)
            self.assert_error(InvalidPoint, Box([1], [1, -2]).around, value, None, value=value)


class Entries(Looks, unittest.TestCase):
    def test_around(self):
        for box in boxes(62, 20) + [BOX]:
            for point in (0, Ratio(1, 3), Twin(Ratio(-1, 2), Ratio(1, 4))):
                top, base = box.curves()
                if not worth_at(base, point).is_nought:
                    for many in (0, 1, 2, 8):
                        found = box.around(point, many)
                        self.assert_twins(found)
                        self.assertEqual(found, quotient_at(top, base, point, many))
                    self.assertEqual(found[0], box.worth(point))

    def test_around_goes_on(self):
        # The moved top is the moved base times the entries, as far as these go.
        for box in boxes(63, 15):
            point = Ratio(1, 5)
            top, base = [moved(curve, point) for curve in box.curves()]
            if base[0] != Twin(0):
                found = box.around(point=point, many=5)
                self.assertEqual(([*times(base, found)] + [Twin(0)] * 5)[:5], (top + [Twin(0)] * 5)[:5])

    def test_around_0_is_the_knock(self):
        for box in boxes(64, 15) + [BOX]:
            self.assertEqual(box.around(0, 8), box.knock(8))

    def test_knock(self):
        self.assertEqual(BOX.knock(4), [Twin(0), Twin(HALF), Twin(Ratio(-1, 4)), Twin(Ratio(1, 8))])
        self.assertEqual(Box([1], [1, 1]).knock(many=60), [Twin(1), Twin(-1)] * 30)
        for box in boxes(65, 15):
            for many in (0, 1, 9):
                found = box.knock(many)
                self.assert_twins(found)
                self.assertEqual(found, answers(box, ([1] + [0] * many)[:many]))

    def test_no_worth_takes_no_knock(self):
        self.assertEqual(Box([1], [1, -2]).knock(4), [Twin(1), Twin(2), Twin(4), Twin(8)])
        self.assertEqual(Box([1], [1, -2]).around(0, 2), [Twin(1), Twin(2)])

    def test_wrong_counts(self):
        for value in ODD_VALUES + (-1, Ratio(1), Twin(1)):
            self.assert_error(InvalidMany, BOX.knock, value, value=value)
            self.assert_error(InvalidMany, BOX.around, 0, value, value=value)
        for value in (9, 60, 10 ** 12):
            self.assert_error(InvalidMany, BOX.around, 0, value, value=value)
            self.assert_error(InvalidMany, Box([1], [1, -2]).around, HALF, value, value=value)
        for value in (61, 10 ** 12):
            self.assert_error(InvalidMany, BOX.knock, value, value=value)


class Great(Looks, unittest.TestCase):
    def test_long_curves_in_common(self):
        chance = Chance(66)
        great = 10 ** 12 - 1

        def curve(many):
            return [Twin(Ratio(1 + chance.below(great), great), chance.below(great)) for _ in range(many)]

        top, base, part = curve(8), curve(8), curve(8)
        box = Box(times(top, part), times(base, part))
        self.assertEqual(box, Box(top, base))
        self.assertEqual(box.degree, 7)
        self.assertEqual(box.curves()[1], scaled(base, Twin(1).over(base[0])))


if __name__ == "__main__":
    unittest.main()
