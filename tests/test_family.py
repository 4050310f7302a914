"""Families, and what is asked of the free box (points 51 and 57)."""

import unittest

from neverlouder.boxes import Box
from neverlouder.built import box_of, steps_of
from neverlouder.curves import worth_at
from neverlouder.errors import InvalidNumber, InvalidPoint, NoChoice
from neverlouder.family import family, free_at
from neverlouder.made import kind
from neverlouder.members import member
from neverlouder.ratios import Ratio
from neverlouder.twins import Twin
from tests.helper import HALF, NEAR_UNITS, ODD_VALUES, POINTS, UNITS, Chance, Exact, Looks, convolved, exact, trim

THIRD = Ratio(1, 3)
ONE = [(0, [HALF])]
NO_CHOICE = (
    [(0, [1])], [(0, [2])], [(0, [0]), (HALF, [HALF])], [(0, [0]), (HALF, [Ratio(3, 4)])], [(0, [HALF, Ratio(3, 4)])],
    [(HALF, [Twin(0, 1), 0])],
)


def step_table(point, number):
    z, w = exact(point), exact(number)
    a, d = [Exact(0) - z, Exact(1)], [Exact(1), Exact(0) - z.mirror()]
    return a, [w * one for one in d], [w.mirror() * one for one in a], d


def behind(one, two):
    """One table of four curves and then another one, by the words of point 51."""
    a, b, c, d = one
    p, q, r, s = two
    return (
        plus(convolved(a, p), convolved(b, r)), plus(convolved(a, q), convolved(b, s)),
        plus(convolved(c, p), convolved(d, r)), plus(convolved(c, q), convolved(d, s)),
    )


def plus(one, two):
    return [first + second for first, second in zip(one, two)]


def many_kind(seed, many):
    """Tellings of the kind "many"."""
    chance = Chance(seed)
    found = []
    while len(found) < many:
        telling = chance.telling(chance.shape(4))
        if kind(telling) == "many":
            found.append(telling)
    return found


class Families(Looks, unittest.TestCase):
    def test_product_of_steps(self):
        for telling in many_kind(131, 15):
            found = family(telling)
            self.assertIs(found.__class__, tuple)
            for curve in found:
                self.assert_told(curve)
            tables = [step_table(point, number) for point, number in steps_of(telling)[0]]
            wanted = tables[0]
            for table in tables[1:]:
                wanted = behind(wanted, table)
            self.assertEqual(found, tuple([one.twin() for one in trim(curve)] for curve in wanted))

    def test_six_answers(self):
        chance = Chance(132)
        for shape in ([1] * 6, [4, 2], [2, 2, 2]):
            box = box_of((chance.steps(2)[0], HALF))
            telling = [(point, box.around(point, many)) for point, many in zip(POINTS, shape)]
            self.assertEqual(max([len(curve) for curve in family(telling)]), 7)

    def test_with_0_behind_it_is_the_box_of_the_steps(self):
        for telling in many_kind(133, 10):
            _, b, _, d = family(telling)
            self.assertEqual(Box(b, d), box_of(steps_of(telling)))

    def test_by_hand(self):
        self.assertEqual(family(ONE), ([Twin(0), Twin(1)], [Twin(HALF)], [Twin(0), Twin(HALF)], [Twin(1)]))
        found = family(telling=((HALF, (0,)),))
        self.assertEqual(found, ([Twin(Ratio(-1, 2)), Twin(1)], [], [], [Twin(1), Twin(Ratio(-1, 2))]))
        # Another sequence of the same tolds makes another table.
        telling = [(0, [HALF]), (HALF, [THIRD])]
        self.assertNotEqual(family(telling), family(telling[::-1]))

    def test_no_choice(self):
        for telling in NO_CHOICE:
            self.assert_error(NoChoice, family, telling)


class FreeAt(Looks, unittest.TestCase):
    def test_by_words(self):
        chance = Chance(134)
        for telling in many_kind(135, 10):
            told = [Twin(1) * point for point, _ in telling]
            for point in [point for point in POINTS if Twin(1) * point not in told]:
                number = chance.value()
                a, b, c, d = [worth_at(curve, point) for curve in family(telling)]
                found = free_at(telling, point, number)
                self.assertIs(found.__class__, Twin)
                self.assertEqual(found * (a - c * number), d * number - b)

    def test_back_to_the_free_box(self):
        chance = Chance(136)
        for telling in many_kind(137, 6):
            free = box_of((chance.steps(2)[0], THIRD))
            found = member(telling, free)
            told = [Twin(1) * point for point, _ in telling]
            for point in [point for point in POINTS if Twin(1) * point not in told]:
                self.assertEqual(free_at(telling, point, found.worth(point)), free.worth(point))

    def test_by_hand(self):
        self.assertEqual(free_at(ONE, HALF, 0), Twin(-1))
        self.assertEqual(free_at(ONE, HALF, Ratio(4, 5)), Twin(1))
        self.assertEqual(free_at(telling=ONE, point=HALF, number=HALF), Twin(0))
        self.assertEqual(free_at(ONE, HALF, Ratio(9, 10)), Twin(Ratio(16, 11)))

    def test_none(self):
        # a is x, c is x by 2: no free box leads to 2.
        for point in (HALF, Twin(0, THIRD), Ratio(-9, 10)):
            for number in (2, Ratio(2), Twin(2)):
                self.assertIsNone(free_at(ONE, point, number))
        self.assertIsNone(free_at([(0, [Twin(0, HALF)])], HALF, Twin(0, 2)))

    def test_wrong(self):
        for telling in (ONE, [(0, [2])]):
            for value in ODD_VALUES + UNITS + NEAR_UNITS:
                self.assert_error(InvalidPoint, free_at, telling, value, None, value=value)
            for value in ODD_VALUES:
                self.assert_error(InvalidNumber, free_at, telling, HALF, value, value=value)
                self.assert_error(InvalidNumber, free_at, telling, 0, value, value=value)
            for value in (0, Ratio(0), Twin(0)):
                self.assert_error(InvalidPoint, free_at, telling, value, 1, value=value)
        for value in (HALF, Twin(HALF)):
            self.assert_error(InvalidPoint, free_at, [(0, [1]), (HALF, [1])], value, 1, value=value)

    def test_no_choice(self):
        for telling in NO_CHOICE:
            self.assert_error(NoChoice, free_at, telling, Twin(0, THIRD), 7)


if __name__ == "__main__":
    unittest.main()
