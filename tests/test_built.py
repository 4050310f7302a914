"""Steps as papers (points 44 and 45)."""

import unittest

from neverlouder.boxes import Box
from neverlouder.built import box_of, is_steps, shows, steps_of
from neverlouder.errors import InvalidSteps
from neverlouder.made import does, kind, telling_of
from neverlouder.played import is_softer
from neverlouder.ratios import Ratio
from neverlouder.steps import parameters, sequence, step_back
from neverlouder.twins import Twin
from tests.helper import NEAR_UNITS, ODD_VALUES, POINTS, UNITS, Chance, Looks

HALF = Ratio(1, 2)
THIRD = Ratio(1, 3)
NO_STEPS = ODD_VALUES + (
    (), ([],), ([], 0, 0), [[], 0], ([], True), ([], None), ([], 2), ([], [0]), (None, 0), ({}, 0), ("", 0),
    ([0], 0), ([(0,)], 0), ([(0, 0, 0)], 0), ([[0, 0]], 0), ([(0, 1)], 0), ([(1, 0)], 0), ([(True, 0)], 0),
    ([(0, False)], 0), ([(0, HALF), (0, None)], 0), ([(0, HALF), (0, "0")], 0), ([(0, 0)] * 25, 0), ([(0, 0)] * 60, 1),
    ((0, 0), 0), ([([0], 0)], 0), (((0, 0), (0, 1)), 0),
)
STEPS = (
    ([], 0), ([], 1), ([], Twin(Ratio(3, 5), Ratio(-4, 5))), ((), HALF), ([(0, 0)], 0), (((0, HALF),), -1),
    ([(HALF, Twin(0, HALF)), (HALF, 0), (0, Ratio(-1, 3))], Twin(0, 1)), ([(0, 0)] * 24, 1), ([(HALF, HALF)] * 24, HALF),
)


class Kinds(Looks, unittest.TestCase):
    def test_is_steps(self):
        for value in STEPS:
            self.assert_answer(True, is_steps(value))
        for value in NO_STEPS:
            self.assert_answer(False, is_steps(value))
        for value in UNITS + NEAR_UNITS:
            self.assert_answer(False, is_steps(([(value, 0)], 0)))
            self.assert_answer(False, is_steps(([(0, 0), (0, value)], 0)))
            self.assert_answer(value in UNITS, is_steps(([(0, 0)], value)))

    def test_wrong(self):
        for value in NO_STEPS:
            self.assert_error(InvalidSteps, box_of, value, value=value)


class Boxes(Looks, unittest.TestCase):
    def test_box_of(self):
        for pairs, last in STEPS[:7]:
            wanted = Box([last], [1])
            for point, number in pairs[::-1]:
                wanted = step_back(wanted, point, number)
            self.assertEqual(box_of((pairs, last)), wanted)
            if pairs:
                self.assertEqual(wanted.worth(pairs[0][0]), Twin(1) * pairs[0][1])

    def test_by_hand(self):
        self.assertEqual(box_of(([], 0)), Box([], [1]))
        self.assertEqual(box_of(steps=([(0, HALF)], 1)), Box([1, 2], [2, 1]))
        self.assertEqual(box_of(([(0, 0)] * 24, 1)), Box([0] * 24 + [1], [1]))
        self.assertEqual(box_of(([(0, 0)] * 24, HALF)), Box([0] * 24 + [HALF], [1]))
        self.assertEqual(box_of(([(HALF, 0)], 1)), Box([-1, 2], [2, -1]))
        self.assertEqual(box_of(([(HALF, 0), (0, 0)], 0)), Box([], [1]))

    def test_points_twice(self):
        for point in POINTS[:4]:
            pairs = [(point, HALF), (0, 0), (point, Twin(0, THIRD)), (point, 0)]
            for last in (0, HALF, 1):
                box = box_of((pairs, last))
                self.assertEqual(box.worth(point), Twin(HALF))

    def test_never_louder(self):
        chance = Chance(101)
        for many in range(5):
            for last in (0, Twin(HALF, HALF), UNITS[3]):
                box = box_of((chance.steps(many)[0], last))
                self.assertTrue(is_softer(box, chance.values(12)))
                self.assertTrue(is_softer(box, [1] + [0] * 20))
                for point in POINTS:
                    self.assertTrue(box.worth(point).size().is_at_most(1))
                if last in UNITS:
                    self.assertEqual(box.degree, many)

    def test_many_steps_of_great_numbers(self):
        great = 10 ** 12 - 1
        pairs = [(Twin(Ratio(k, great), Ratio(-1, 2 + k)), Ratio(great // 2 - k, great)) for k in range(24)]
        box = box_of((pairs, Twin(0, 1)))
        self.assertEqual(box.degree, 24)
        self.assertEqual(box.worth(pairs[0][0]), Twin(pairs[0][1]))
        self.assertEqual(box_of((pairs, 0)).degree, 23)


class StepsOf(Looks, unittest.TestCase):
    def assert_steps(self, telling):
        """Just the doable tellings are shown, by their own step sequence."""
        found = steps_of(telling)
        which = kind(telling)
        if which == "none":
            self.assertIsNone(found)
            return
        self.assertIs(found.__class__, tuple)
        pairs, last = found
        self.assertIs(pairs.__class__, list)
        self.assertIs(last.__class__, Twin)
        for pair in pairs:
            self.assertIs(pair.__class__, tuple)
            self.assert_twins(list(pair))
        self.assertTrue(is_steps(found))
        self.assertEqual([number for _, number in pairs], parameters(telling))
        self.assertEqual([point for point, _ in pairs], sequence(telling)[:len(pairs)])
        if which == "many":
            self.assertEqual(len(pairs), len(sequence(telling)))
            self.assertEqual(last, Twin(0))
        else:
            self.assertEqual(last.size(), Ratio(1))
        self.assert_answer(True, does(box_of(found), telling))
        self.assert_answer(True, shows(telling, found))

    def test_steps_of(self):
        chance = Chance(102)
        for _ in range(40):
            self.assert_steps(chance.telling(chance.shape(5)))

    def test_what_boxes_do(self):
        chance = Chance(103)
        for last in (0, HALF) + UNITS:
            for shape in ([1], [3], [2, 1], [1, 1, 1, 1], [2, 2], [1, 3]):
                box = box_of((chance.steps(chance.below(4))[0], last))
                points = chance.points(len(shape))
                telling = [(point, box.around(point, many)) for point, many in zip(points, shape)]
                self.assertNotEqual(kind(telling), "none")
                self.assert_steps(telling)

    def test_a_constant_is_left(self):
        for unit in UNITS:
            number = Twin(1) * unit
            self.assertEqual(steps_of([(0, [unit])]), ([], number))
            self.assertEqual(steps_of([(0, [unit, 0]), (HALF, [unit, 0, 0])]), ([], number))
            for telling in (
                [(0, [unit, 1])], [(0, [unit]), (HALF, [unit, Ratio(1, 9)])], [(0, [unit]), (HALF, [0])],
                [(0, [unit]), (HALF, [-number])], [(0, [unit, 0, 0, Twin(0, HALF)])], [(0, [HALF]), (HALF, [unit])],
                [(0, [unit]), (HALF, [2])],
            ):
                self.assertIsNone(steps_of(telling))
        for loud in NEAR_UNITS:
            self.assertIsNone(steps_of([(0, [loud])]))
            self.assertIsNone(steps_of([(0, [loud]), (HALF, [loud])]))
            self.assertIsNone(steps_of([(0, [HALF]), (HALF, [loud])]))
        self.assertEqual(steps_of([(0, [HALF, Ratio(3, 4)])]), ([(Twin(0), Twin(HALF))], Twin(1)))
        self.assertIsNone(steps_of([(0, [HALF, Ratio(3, 4), 1])]))

    def test_by_hand(self):
        self.assertEqual(steps_of([(0, [HALF])]), ([(Twin(0), Twin(HALF))], Twin(0)))
        self.assertEqual(steps_of([(0, [HALF]), (HALF, [Ratio(4, 5)])]), ([(Twin(0), Twin(HALF))], Twin(1)))
        self.assertIsNone(steps_of(telling=[(0, [HALF]), (HALF, [Ratio(9, 10)])]))


class Shows(Looks, unittest.TestCase):
    def test_any_value(self):
        for telling in ([(0, [HALF])], [(0, [2])]):
            for value in NO_STEPS:
                self.assert_answer(False, shows(telling, value))

    def test_shows(self):
        telling = [(0, [HALF]), (HALF, [HALF])]
        wanted = (
            (([(0, HALF), (HALF, 0)], 0), True), (([], HALF), True), (([(THIRD, HALF)], 0), True),
            (([(0, HALF)], 0), True), (([(0, HALF)], HALF), False), (([(0, HALF), (HALF, 0)], HALF), True),
            (([(HALF, HALF), (0, 0)], -1), True), (([(HALF, HALF)], Twin(0, 1)), False), (([], 0), False),
        )
        for value, truth in wanted:
            self.assert_answer(truth, shows(telling, value))
        self.assert_answer(True, shows(telling=((0, (HALF,)),), value=(((0, HALF),), 1)))

    def test_not_doable_ones_are_not_shown(self):
        chance = Chance(104)
        telling = [(0, [HALF]), (HALF, [Ratio(9, 10)])]
        for _ in range(10):
            self.assert_answer(False, shows(telling, chance.steps(3)))
            self.assert_answer(False, shows(telling, ([(0, HALF), (HALF, chance.small())], chance.small())))

    def test_of_boxes(self):
        chance = Chance(105)
        for _ in range(6):
            value = (chance.steps(3)[0], HALF)
            telling = telling_of(box_of(value), chance.points(2), 2)
            self.assert_answer(True, shows(telling, value))
            # Four answers are more than three steps leave open.
            self.assert_answer(False, shows(telling, (value[0], THIRD)))


if __name__ == "__main__":
    unittest.main()
