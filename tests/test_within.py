"""Steps, boxes and spots within a bound (points 73, 74 and 78)."""

import unittest

from neverlouder.bounds import is_doable_within
from neverlouder.boxes import Box
from neverlouder.built import box_of, is_steps, shows, steps_of
from neverlouder.errors import InvalidBound, InvalidNumber, InvalidPoint, InvalidSteps, NotDoable
from neverlouder.judged import is_never_louder
from neverlouder.made import does
from neverlouder.played import answers, force
from neverlouder.ratios import Ratio
from neverlouder.spots import is_in_spot, spot
from neverlouder.steps import sequence
from neverlouder.twins import Twin
from neverlouder.within import (
    box_of_within, box_within, is_in_spot_within, is_steps_within, shows_within, spot_within, steps_within,
)
from tests.helper import HALF, ODD_VALUES, POINTS, UNITS, Chance, Exact, Looks, exact
from tests.test_built import NO_STEPS, STEPS

BOUNDS = (1, 2, HALF, Ratio(9, 4), 4, Ratio(1, 100), 50)
LITTLE = Ratio(1, 10 ** 9)
# What is no steps for another reason than a number's size.
NEVER_STEPS = [value for value in NO_STEPS if value not in (([], 2), ([(0, 1)], 0), (((0, 0), (0, 1)), 0))]


def samples(seed, many, most=6):
    """Tellings of any kind, and bounds."""
    chance = Chance(seed)
    found = []
    for _ in range(many):
        telling = chance.telling(chance.shape(most))
        by = chance.pick((1, 2, HALF))
        found.append(([(point, [Twin(1) * one * by for one in told]) for point, told in telling], chance.pick(BOUNDS)))
    return found


def worth_by_words(bound, steps, at):
    """The worth of a steps' box at a point, as point 73 makes it, by Fractions."""
    pairs, last = steps
    found = exact(last)
    x = exact(at)
    for point, number in reversed(pairs):
        z, w = exact(point), exact(number)
        b = (x - z) / (Exact(1) - z.mirror() * x)
        found = (w + b * found) / (Exact(1) + w.mirror() * b * found / exact(bound))
    return found.twin()


def answers_in(telling):
    return sum([len(told) for _, told in telling])


class Kinds(Looks, unittest.TestCase):
    def test_any_value(self):
        for bound in BOUNDS:
            for value in NEVER_STEPS:
                self.assert_answer(False, is_steps_within(bound, value))
        for value in STEPS + NO_STEPS:
            self.assert_answer(is_steps(value), is_steps_within(1, value))

    def test_sizes(self):
        for bound, number in ((4, 2), (Ratio(1, 4), Twin(0, HALF)), (2, Twin(1, -1)), (Ratio(25, 9), Twin(1, Ratio(4, 3)))):
            self.assert_answer(True, is_steps_within(bound, ([], number)))
            self.assert_answer(False, is_steps_within(bound, ([], Twin(1 + LITTLE) * number)))
            self.assert_answer(False, is_steps_within(bound, ([(0, number)], 0)))
            self.assert_answer(True, is_steps_within(bound, ([(0, Twin(1 - LITTLE) * number)], number)))
            self.assert_answer(False, is_steps_within(Ratio(1) * bound - LITTLE, ([], number)))
            self.assert_answer(True, is_steps_within(Ratio(1) * bound + LITTLE, ([(0, number)], 0)))

    def test_how_many(self):
        for many in (0, 1, 24):
            self.assert_answer(True, is_steps_within(bound=9, value=([(HALF, 2)] * many, -3)))
        self.assert_answer(False, is_steps_within(9, ([(HALF, 2)] * 25, -3)))
        self.assert_answer(True, is_steps_within(9, (((HALF, 2),), -3)))
        # A bound makes points no greater.
        self.assert_answer(False, is_steps_within(9, ([(1, 0)], 0)))

    def test_wrong(self):
        for value in ODD_VALUES + (0, -1, Ratio(-1, 3), Twin(1)):
            self.assert_error(InvalidBound, is_steps_within, value, ([], 0), value=value)
            self.assert_error(InvalidBound, box_of_within, value, None, value=value)
        for value in NEVER_STEPS + [([], 3), ([(0, 2)], 0)]:
            self.assert_error(InvalidSteps, box_of_within, 4, value, value=value)


class Boxes(Looks, unittest.TestCase):
    def test_by_words(self):
        chance = Chance(301)
        for many in (0, 1, 2, 3, 5):
            for bound in BOUNDS:
                by = HALF if Ratio(1) == bound or not Ratio(1).is_at_most(bound) else 1
                by = Ratio(1, 11) if Ratio(1, 100) == bound else by
                steps = ([(chance.pick(POINTS), Twin(by) * chance.small()) for _ in range(many)], Twin(by) * chance.pick(UNITS))
                box = box_of_within(bound, steps)
                self.assertIs(box.__class__, Box)
                for at in (0, HALF, Twin(Ratio(-1, 3), Ratio(1, 5))):
                    self.assertEqual(box.worth(at), worth_by_words(bound, steps, at))
                if many:
                    self.assertEqual(box.worth(steps[0][0][0]), Twin(1) * steps[0][0][1])
                self.assert_within(box, bound)

    def assert_within(self, box, bound):
        for row in ([1, 0, 0, 0, 0, 0], [1, Twin(0, 1), HALF, -2, 0, 0]):
            made = answers(box, row)
            for n in range(1, len(row) + 1):
                self.assertTrue(force(made[:n]).is_at_most(force(row[:n]) * bound))

    def test_a_box_within_4_is_twice_one_within_1(self):
        steps = ([(0, Ratio(1, 2)), (HALF, Twin(0, 1))], 2)
        top, base = box_of_within(4, steps).curves()
        half = Box([one * HALF for one in top], base)
        self.assertEqual(half, box_of(([(0, Ratio(1, 4)), (HALF, Twin(0, HALF))], 1)))
        self.assert_answer(True, is_never_louder(half))

    def test_within_1(self):
        for steps in STEPS[:7]:
            self.assertEqual(box_of_within(1, steps), box_of(steps))

    def test_24_steps(self):
        self.assertEqual(box_of_within(4, ([(0, 0)] * 24, 2)), Box([0] * 24 + [2], [1]))


class Steps(Looks, unittest.TestCase):
    def test_steps_show(self):
        seen = []
        for telling, bound in samples(302, 60):
            wanted = is_doable_within(telling, bound)
            seen.append(wanted)
            steps, box = steps_within(telling, bound), box_within(telling, bound)
            self.assertEqual((steps is not None, box is not None), (wanted, wanted))
            if wanted:
                self.assert_steps(telling, bound, steps)
                self.assert_answer(True, does(box, telling))
                self.assert_answer(True, shows_within(telling, bound, steps))
                self.assertEqual(box, box_of_within(bound, steps))
        self.assertIn(True, seen)
        self.assertIn(False, seen)

    def assert_steps(self, telling, bound, steps):
        self.assertEqual((steps.__class__, len(steps)), (tuple, 2))
        self.assertIs(steps[0].__class__, list)
        self.assert_answer(True, is_steps_within(bound, steps))
        for one in steps[0]:
            self.assertIs(one.__class__, tuple)
            self.assert_twins(list(one))
        self.assertIs(steps[1].__class__, Twin)
        self.assertEqual([point for point, _ in steps[0]], sequence(telling)[:len(steps[0])])
        if len(steps[0]) == answers_in(telling):
            self.assertEqual(steps[1], Twin(0))
        else:
            self.assertEqual(steps[1].size(), Ratio(1) * bound)

    def test_just_the_bound(self):
        self.assertEqual(steps_within([(0, [2])], 4), ([], Twin(2)))
        self.assertEqual(steps_within([(0, [2, 0]), (HALF, [2])], 4), ([], Twin(2)))
        self.assertEqual(steps_within([(0, [0]), (HALF, [1])], 4), ([(Twin(0), Twin(0))], Twin(2)))
        self.assertEqual(box_within([(0, [0]), (HALF, [1])], 4), Box([0, 2], [1]))
        for telling in ([(0, [2, 1])], [(0, [2]), (HALF, [1])], [(0, [1]), (HALF, [3])], [(0, [0]), (HALF, [1 + LITTLE])]):
            self.assertIsNone(steps_within(telling, 4))
            self.assertIsNone(box_within(telling=telling, bound=4))
        self.assertEqual(steps_within(telling=[(0, [1]), (HALF, [1])], bound=4)[1], Twin(0))
        self.assertIsNone(steps_within([(0, [2])], Ratio(4) - LITTLE))

    def test_noughts(self):
        for bound in (1, LITTLE, 10 ** 9):
            found = steps_within([(0, [0, 0]), (HALF, [0])], bound)
            self.assertEqual(found, ([(Twin(0), Twin(0)), (Twin(0), Twin(0)), (Twin(HALF), Twin(0))], Twin(0)))
            self.assertEqual(box_within([(0, [0])], bound), Box([], [1]))

    def test_within_1(self):
        for telling, _ in samples(303, 30):
            self.assertEqual(steps_within(telling, 1), steps_of(telling))
            steps = steps_of(telling) or ([], 0)
            self.assertEqual(shows_within(telling, 1, steps), shows(telling, steps))

    def test_shows_within(self):
        telling = [(0, [1]), (HALF, [1])]
        for value, bound, wanted in (
            (([], 1), 4, True), (([], 1), 1, True), (([], 1), Ratio(99, 100), False), (([], 2), 4, False),
            (([(0, 1), (HALF, 0)], 2), 4, True), (([(0, 1), (HALF, 0)], 2), 5, True), (([(0, 1), (HALF, 1)], 0), 4, False),
            ([[], 1], 4, False), (([], 1, 0), 4, False),
        ):
            self.assert_answer(wanted, shows_within(telling, bound, value))
        for value in NEVER_STEPS:
            self.assert_answer(False, shows_within(telling=telling, bound=4, value=value))


class Spots(Looks, unittest.TestCase):
    def test_told_beside(self):
        chance = Chance(304)
        for telling, bound in samples(305, 25, 4):
            place = chance.pick([point for point in POINTS if Twin(1) * point not in [Twin(1) * one for one, _ in telling]])
            if not is_doable_within(telling, bound):
                self.assert_error(NotDoable, spot_within, telling, place, bound)
                self.assert_error(NotDoable, is_in_spot_within, telling, place, bound, 0)
                continue
            middle, square = spot_within(telling, place, bound)
            self.assertEqual((middle.__class__, square.__class__), (Twin, Ratio))
            for number in (middle, middle + Twin(square), middle + chance.small(), middle + Twin(0, LITTLE), 0, 1):
                wanted = is_doable_within(telling + [(place, [number])], bound)
                self.assert_answer(wanted, is_in_spot_within(telling, place, bound, number))
                self.assertEqual((Twin(1) * number - middle).size().is_at_most(square), wanted)

    def test_told_points(self):
        for telling, bound in samples(306, 25):
            if is_doable_within(telling, bound):
                for point, told in telling:
                    self.assertEqual(spot_within(telling, point, bound), (told[0], Ratio(0)))
                    self.assert_answer(True, is_in_spot_within(telling, point, bound, told[0]))
                    self.assert_answer(False, is_in_spot_within(telling, point, bound, told[0] + LITTLE))

    def test_just_one(self):
        telling = [(0, [0]), (HALF, [1])]
        self.assertEqual(spot_within(telling, Ratio(1, 3), 4), (Twin(Ratio(2, 3)), Ratio(0)))
        self.assert_answer(True, is_in_spot_within(telling, Ratio(1, 3), 4, Ratio(2, 3)))
        self.assert_answer(False, is_in_spot_within(telling, Ratio(1, 3), 4, Ratio(2, 3) + LITTLE))
        self.assertEqual(spot_within([(0, [Twin(0, 2)])], HALF, 4), (Twin(0, 2), Ratio(0)))

    def test_rims(self):
        # Worths of what the greatest and lesser last numbers lead to.
        telling = [(0, [HALF])]
        for bound, most in ((1, 1), (Ratio(9, 4), Ratio(3, 2)), (16, 4)):
            middle, square = spot_within(telling, HALF, bound)
            for unit in UNITS:
                number = box_of_within(bound, ([(0, HALF)], Twin(most) * unit)).worth(HALF)
                self.assertEqual((number - middle).size(), square)
                self.assert_answer(True, is_in_spot_within(telling, HALF, bound, number))
                number = box_of_within(bound, ([(0, HALF)], Twin(most) * unit * HALF)).worth(HALF)
                self.assertTrue((number - middle).size().is_below(square))

    def test_within_1(self):
        for telling, _ in samples(307, 15, 5):
            if is_doable_within(telling, 1):
                for place in POINTS[:4]:
                    self.assertEqual(spot_within(telling, place, 1), spot(telling, place))
                    self.assertEqual(is_in_spot_within(telling, place, 1, HALF), is_in_spot(telling, place, HALF))

    def test_by_hand(self):
        self.assertEqual(spot_within([(0, [0])], HALF, 4), (Twin(0), Ratio(1)))
        self.assertEqual(spot_within(telling=((0, (0,)),), point=HALF, bound=9), (Twin(0), Ratio(9, 4)))
        self.assert_answer(True, is_in_spot_within(telling=[(0, [0])], point=HALF, bound=4, number=Twin(0, -1)))

    def test_wrong(self):
        told = [(0, [5])]
        for value in ODD_VALUES:
            self.assert_error(InvalidPoint, spot_within, told, value, None, value=value)
            self.assert_error(InvalidPoint, is_in_spot_within, told, value, None, None, value=value)
            self.assert_error(InvalidBound, spot_within, told, 0, value, value=value)
            self.assert_error(InvalidBound, is_in_spot_within, told, 0, value, None, value=value)
            self.assert_error(InvalidNumber, is_in_spot_within, told, 0, 1, value, value=value)
        for value in UNITS:
            self.assert_error(InvalidPoint, spot_within, told, value, 1, value=value)
        self.assert_error(NotDoable, spot_within, told, 0, 1)
        self.assert_error(NotDoable, is_in_spot_within, told, 0, 1, 5)


if __name__ == "__main__":
    unittest.main()
