"""Keepers (point 88)."""

import unittest

from neverlouder.boxes import Box
from neverlouder.built import box_of
from neverlouder.errors import (
    InvalidBox, InvalidCurve, InvalidPoint, InvalidPoints, InvalidUnit, NotKeeper, NotNought, NotOne, NotSteady, NoWorth,
    TooMany,
)
from neverlouder.joined import product
from neverlouder.judged import is_never_louder, touches
from neverlouder.keepers import is_keeper, keeper, keeper_by, keeper_of, noughts, without_nought
from neverlouder.made import does, kind, made_table, telling_of
from neverlouder.members import only_box
from neverlouder.played import force, is_softer
from neverlouder.ranks import rank
from neverlouder.ratios import Ratio
from neverlouder.twins import Twin
from tests.helper import HALF, NEAR_UNITS, ODD_VALUES, POINTS, UNITS, Chance, Exact, Looks, exact

THIRD = Ratio(1, 3)
LITTLE = Ratio(1, 10 ** 9)
STEADY = ([1], [2, 1], [Twin(0, 3), 1], [9, 1, Twin(0, 2), -3], [Twin(2, 2), 0, 1, 0, 0], [9] + [1] * 8)
NOT_STEADY = ([], [0], [0, 1], [1, 1], [1, 2], [HALF, 0, 1, 0], [1, Twin(0, -1)], [8] + [-1] * 8)


def keepers(seed, many):
    chance = Chance(seed)
    return [keeper_of([chance.pick(POINTS) for _ in range(chance.below(5))], chance.pick(UNITS)) for _ in range(many)]


class Judged(Looks, unittest.TestCase):
    def test_boxes_of_steps(self):
        chance = Chance(371)
        for many in (0, 1, 3, 8):
            for last in (0, HALF) + UNITS:
                box = box_of((chance.steps(many)[0], last))
                self.assert_answer(last in UNITS, is_keeper(box))
                if last in UNITS:
                    self.assertEqual(noughts(box), many)
                else:
                    self.assert_error(NotKeeper, noughts, box)

    def test_just_these(self):
        for box, wanted in (
            (Box([], [1]), False), (Box([1], [1]), True), (Box([1 - LITTLE], [1]), False), (Box([2], [1]), False),
            (Box([1, 1], [2]), False), (Box([0, 0, 1], [1]), True), (Box([1, 2], [2, 1]), True),
            # All of the rim is kept, but the base is not steady.
            (Box([2, 1], [1, 2]), False), (Box([1], [HALF, 1]), False), (Box([1, 2 + LITTLE], [2, 1]), False),
        ):
            self.assert_answer(wanted, is_keeper(box=box))
            if wanted:
                self.assertIsNone(touches(box))

    def test_they_keep_the_force(self):
        for box in keepers(372, 6):
            heard = [1, Twin(0, 2), -1]
            made = box.knock(60)
            self.assert_answer(True, is_softer(box, heard + [0] * 20))
            left = Ratio(1) - force(made)
            self.assertTrue(left.sign >= 0 and left.is_below(Ratio(1, 50)))

    def test_wrong(self):
        for call in (is_keeper, noughts):
            for value in ODD_VALUES:
                self.assert_error(InvalidBox, call, value, value=value)
            for box in (Box([0] * 9 + [1], [1]), Box([3], [9] + [0] * 8 + [1])):
                self.assert_error(TooMany, call, box, what="degree", limit=8)
        self.assertEqual(noughts(box=Box([0] * 8 + [1], [1])), 8)


class OfCurves(Looks, unittest.TestCase):
    def test_by_worths(self):
        for curve in STEADY:
            for unit in UNITS:
                found = keeper(curve, unit)
                self.assertIs(found.__class__, Box)
                self.assert_answer(True, is_keeper(found))
                told = [exact(one) for one in curve]
                while told[-1].size() == 0:
                    told.pop()
                for at in (0, HALF, Twin(Ratio(-1, 5), THIRD)):
                    x = exact(at)
                    above = below = Exact(0)
                    for k, one in enumerate(told):
                        below = below + one * power(x, k)
                        above = above + one.mirror() * power(x, len(told) - 1 - k)
                    self.assertEqual(found.worth(at), (exact(unit) * above / below).twin())

    def test_each_keeper_is_one_of_these(self):
        for box in keepers(373, 10):
            top, base = box.curves()
            found = keeper(base + [Twin(0)] * (box.degree + 1 - len(base)), 1)
            # The base may be of a lesser degree: then noughts are in front.
            for _ in range(box.degree - found.degree):
                found = product(found, Box([0, 1], [1]))
            unit = top[-1].over(found.curves()[0][-1])
            self.assertEqual(unit.size(), Ratio(1))
            self.assertEqual(product(found, Box([unit], [1])), box)

    def test_by_hand(self):
        self.assertEqual(keeper([2, 1], 1), Box([1, 2], [2, 1]))
        self.assertEqual(keeper(curve=(2, Twin(0, 1), 0), number=Twin(0, 1)), Box([1, Twin(0, 2)], [2, Twin(0, 1)]))
        self.assertEqual(keeper([Twin(0, 5)], -1), Box([1], [1]))

    def test_wrong(self):
        for value in ODD_VALUES + ([1] * 42,):
            self.assert_error(InvalidCurve, keeper, value, None, value=value)
        for value in ODD_VALUES + NEAR_UNITS + (0, HALF):
            self.assert_error(InvalidUnit, keeper, [1, 1], value, value=value)
            self.assert_error(InvalidUnit, keeper, [1] * 12, value, value=value)
        for curve in ([1] * 10, [0] * 40 + [1], [9] + [0] * 8 + [1, 0]):
            self.assert_error(TooMany, keeper, curve, 1, what="degree", limit=8)
        for curve in NOT_STEADY:
            self.assert_error(NotSteady, keeper, curve, 1)


def power(one, many):
    found = Exact(1)
    for _ in range(many):
        found = found * one
    return found


class OfNoughts(Looks, unittest.TestCase):
    def test_by_worths(self):
        chance = Chance(374)
        for many in range(9):
            points = [chance.pick(POINTS) for _ in range(many)]
            for unit in UNITS:
                found = keeper_of(points, unit)
                self.assert_answer(True, is_keeper(found))
                self.assertEqual(noughts(found), many)
                for at in (THIRD, Twin(0, Ratio(-1, 5))):
                    wanted, x = exact(unit), exact(at)
                    for point in points:
                        z = exact(point)
                        wanted = wanted * (x - z) / (Exact(1) - z.mirror() * x)
                    self.assertEqual(found.worth(at), wanted.twin())

    def test_noughts_alike(self):
        for point in POINTS[:5]:
            found = keeper_of([point] * 3, 1)
            self.assertEqual(noughts(found), 3)
            self.assertEqual(found.around(point, 4)[:3], [Twin(0)] * 3)
            self.assertFalse(found.around(point, 4)[3].is_nought)

    def test_by_hand(self):
        self.assertEqual(keeper_of([], Twin(0, 1)), Box([Twin(0, 1)], [1]))
        self.assertEqual(keeper_of((0, HALF), -1), Box([0, HALF, -1], [1, Ratio(-1, 2)]))
        self.assertEqual(keeper_of(points=[0] * 8, number=1), Box([0] * 8 + [1], [1]))

    def test_wrong(self):
        wrong = ODD_VALUES + ([1], [0, 2], [0] * 9, [HALF, None], [True], (Twin(0, -1),), 0, Twin(0))
        for value in wrong:
            self.assert_error(InvalidPoints, keeper_of, value, None, value=value)
        for value in ODD_VALUES + NEAR_UNITS + (0, HALF):
            self.assert_error(InvalidUnit, keeper_of, [0], value, value=value)


class WithoutNought(Looks, unittest.TestCase):
    def test_by_worths(self):
        chance = Chance(375)
        for box in keepers(376, 6) + [box_of((chance.steps(2)[0], HALF)), Box([3, 1], [5, 1, 1]), Box([], [1])]:
            for point in POINTS[:5]:
                one = keeper_of([point], 1)
                both = product(box, one)
                self.assertEqual(without_nought(both, point), box)
                self.assertEqual(product(without_nought(both, point), one), both)

    def test_a_never_louder_one_leaves_one(self):
        for box in keepers(377, 4):
            for point in POINTS[:4]:
                left = without_nought(product(keeper_of([point, HALF], 1), box), point)
                self.assert_answer(True, is_keeper(left))
        soft = product(Box([1, 1], [2]), keeper_of([THIRD], 1))
        self.assert_answer(True, is_never_louder(without_nought(soft, THIRD)))

    def test_any_degree(self):
        self.assertEqual(without_nought(Box([0] * 40 + [7], [1]), 0), Box([0] * 39 + [7], [1]))
        self.assertEqual(without_nought(box=Box([0, 5], [1, -9]), point=Twin(0)), Box([5], [1, -9]))

    def test_wrong(self):
        box = Box([0, 1], [1, -2])
        for value in ODD_VALUES:
            self.assert_error(InvalidBox, without_nought, value, None, value=value)
        for value in ODD_VALUES + UNITS + NEAR_UNITS:
            self.assert_error(InvalidPoint, without_nought, box, value, value=value)
        for value in (HALF, Twin(HALF)):
            self.assert_error(NoWorth, without_nought, box, value, point=value)
        for value in (THIRD, LITTLE, Twin(0, HALF)):
            self.assert_error(NotNought, without_nought, box, value)
        self.assert_error(NotNought, without_nought, Box([1], [1]), 0)


class ByTellings(Looks, unittest.TestCase):
    def test_what_keepers_do(self):
        for box in keepers(378, 12):
            for points, many in ((POINTS[:6], 1), (POINTS[2:5], 2), ((HALF,), 4), ((0, HALF), 3)):
                telling = telling_of(box, points, many)
                answers = len(points) * many
                self.assertEqual(rank(made_table(telling)), min(box.degree, answers))
                if box.degree < answers:
                    self.assertEqual(keeper_by(telling), box)
                else:
                    self.assert_error(NotOne, keeper_by, telling)

    def test_only_boxes_are_keepers(self):
        for telling in ([(0, [0]), (HALF, [HALF])], [(0, [HALF, Ratio(3, 4)])], [(0, [HALF]), (HALF, [Ratio(4, 5)])], [(HALF, [-1])]):
            found = keeper_by(telling)
            self.assertEqual(found, only_box(telling))
            self.assert_answer(True, does(found, telling))
            self.assert_answer(True, is_keeper(found))
            self.assertEqual(noughts(found), rank(made_table(telling)))

    def test_not_one(self):
        for telling in ([(0, [HALF])], [(0, [2])], [(0, [0]), (HALF, [Ratio(3, 4)])], [(0, [0, 0, 0])]):
            self.assertNotEqual(kind(telling), "one")
            self.assert_error(NotOne, keeper_by, telling)
        self.assertEqual(keeper_by(telling=[(0, [0, 0, Twin(0, 1)])]), Box([0, 0, Twin(0, 1)], [1]))


if __name__ == "__main__":
    unittest.main()
