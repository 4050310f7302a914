"""Beginnings and their parameters (points 66 to 68)."""

import unittest

from neverlouder.beginnings import from_schur, knocks_let, next_knock, schur, schur_of
from neverlouder.boxes import Box
from neverlouder.built import box_of
from neverlouder.errors import InvalidBox, InvalidMany, InvalidNumber, InvalidNumbers, InvalidRow, NotDoable
from neverlouder.made import is_doable
from neverlouder.played import is_softer
from neverlouder.ratios import Ratio
from neverlouder.spots import next_spot
from neverlouder.steps import step_box
from neverlouder.twins import Twin
from tests.helper import HALF, NEAR_UNITS, ODD_VALUES, UNITS, Chance, Looks

THIRD = Ratio(1, 3)
NO_ROWS = ODD_VALUES + ([], (), [1] * 13, [0] * 60, [1, True], 1, Twin(1), "12")


def toeplitz_doable(row):
    """Whether the row is let: as the telling of one point, for up to 4 numbers."""
    return is_doable([(0, list(row))])


class Let(Looks, unittest.TestCase):
    def test_as_a_telling_of_0(self):
        chance = Chance(191)
        seen = []
        for _ in range(60):
            row = [chance.pick((chance.small(), 0, chance.pick(UNITS))) for _ in range(1 + chance.below(4))]
            seen.append(knocks_let(row))
            self.assert_answer(toeplitz_doable(row), seen[-1])
        self.assertIn(True, seen)
        self.assertIn(False, seen)

    def test_beginnings_of_boxes(self):
        chance = Chance(192)
        for many in range(5):
            for last in (0, HALF) + UNITS:
                row = from_schur([chance.small() for _ in range(many)], last).knock(12)
                for length in range(1, 13):
                    self.assert_answer(True, knocks_let(row[:length]))

    def test_a_last_number(self):
        # Of the beginning 1/2, x all x up to 3/4 in size are let; just at 3/4 one box alone goes on.
        for number, wanted in ((Ratio(3, 4), True), (Ratio(751, 1000), False), (Ratio(749, 1000), True), (1, False)):
            self.assert_answer(wanted, knocks_let([HALF, number]))
            self.assert_answer(wanted, knocks_let((HALF, Twin(0, -1) * number)))
        self.assert_answer(True, knocks_let([HALF, Ratio(3, 4), Ratio(-3, 8), Ratio(3, 16)]))
        self.assert_answer(False, knocks_let([HALF, Ratio(3, 4), Ratio(-3, 8), Ratio(3, 16), 0]))
        self.assert_answer(False, knocks_let([HALF, Ratio(3, 4), 0]))

    def test_noughts(self):
        for many in range(1, 13):
            self.assert_answer(True, knocks_let([0] * many))
            for unit in UNITS:
                self.assert_answer(True, knocks_let([unit] + [0] * (many - 1)))
                self.assert_answer(True, knocks_let([0] * (many - 1) + [unit]))
                if many > 1:
                    self.assert_answer(False, knocks_let([unit] + [0] * (many - 2) + [Ratio(1, 10 ** 9)]))
            for loud in NEAR_UNITS:
                self.assert_answer(False, knocks_let([0] * (many - 1) + [loud]))

    def test_wrong(self):
        for call in (knocks_let, schur_of, next_knock):
            for value in NO_ROWS:
                self.assert_error(InvalidRow, call, value, value=value)


class Parameters(Looks, unittest.TestCase):
    def test_schur_of(self):
        chance = Chance(193)
        for many in range(12):
            numbers = [chance.small() for _ in range(many)]
            box = from_schur(numbers, Twin(0, HALF))
            row = box.knock(12)
            wanted = [Twin(1) * one for one in numbers] + [Twin(0, HALF)]
            for length in range(1, 13):
                found = schur_of(row[:length])
                self.assert_twins(found)
                self.assertEqual(found, (wanted + [Twin(0)] * 12)[:length])
                self.assertEqual(schur(box, length), found)

    def test_they_end_at_size_1(self):
        for unit in UNITS:
            number = Twin(1) * unit
            self.assertEqual(schur_of([unit, 0, 0]), [number])
            self.assertEqual(schur_of([unit, 5]), [number])
            self.assertEqual(schur_of([0, 0, unit, 5]), [Twin(0), Twin(0), number])
            for many in range(5):
                box = from_schur([HALF] * many, unit)
                self.assertEqual(schur(box, 12), [Twin(HALF)] * many + [number])
                self.assertEqual(schur(box, many), [Twin(HALF)] * many)
        for loud in NEAR_UNITS:
            self.assertEqual(schur_of([0, loud, 0]), [Twin(0), Twin(1) * loud])
            self.assertEqual(schur(Box([loud], [1]), 3), [Twin(1) * loud])
        self.assertEqual(schur_of([HALF, 1, 7]), [Twin(HALF), Twin(Ratio(4, 3))])

    def test_by_steps_of_boxes(self):
        chance = Chance(194)
        for _ in range(8):
            left = box = Box(chance.curve(3), [5] + chance.curve(2))
            for number in schur(box, 5):
                self.assertEqual(number, left.worth(0))
                if number.size().is_below(1):
                    left = step_box(left, 0)[1]

    def test_a_louder_box(self):
        self.assertEqual(schur(Box([HALF, 1], [1]), 12), [Twin(HALF), Twin(Ratio(4, 3))])
        self.assertEqual(schur(box=Box([1], [1, -2]), many=3), [Twin(1)])
        self.assertEqual(schur(Box([], [1]), 12), [Twin(0)] * 12)

    def test_none_asked_for(self):
        for box in (Box([HALF], [1]), Box([2], [1])):
            self.assertEqual(schur(box, 0), [])

    def test_wrong(self):
        for value in ODD_VALUES:
            self.assert_error(InvalidBox, schur, value, None, value=value)
        for value in ODD_VALUES + (-1, 13, 60, 10 ** 12, Ratio(1), Twin(1)):
            self.assert_error(InvalidMany, schur, Box([2], [1]), value, value=value)


class FromSchur(Looks, unittest.TestCase):
    def test_steps_of_0(self):
        chance = Chance(195)
        for many in (0, 1, 2, 5, 12):
            for last in (0, HALF, 1, Twin(Ratio(3, 5), Ratio(-4, 5))):
                numbers = [chance.small() for _ in range(many)]
                found = from_schur(numbers, last)
                self.assertIs(found.__class__, Box)
                self.assertEqual(found, box_of(([(0, one) for one in numbers], last)))
                self.assertTrue(is_softer(found, [1] + [0] * 20))

    def test_by_hand(self):
        self.assertEqual(from_schur([], 0), Box([], [1]))
        self.assertEqual(from_schur((), Twin(0, 1)), Box([Twin(0, 1)], [1]))
        self.assertEqual(from_schur([HALF], 1), Box([1, 2], [2, 1]))
        self.assertEqual(from_schur(numbers=[0] * 12, last=-1), Box([0] * 12 + [-1], [1]))

    def test_it_keeps_all_force(self):
        # So many parameters and then one of size 1.
        for numbers in ([HALF], [0, Twin(0, THIRD)], [Ratio(-1, 2), 0, HALF]):
            self.assertEqual(from_schur(numbers, 1).degree, len(numbers))
            self.assertEqual(from_schur(numbers, UNITS[3]).degree, len(numbers))

    def test_wrong(self):
        wrong = ([1], [0, 1], [HALF, Twin(0, -1)], [2], [0, None], [0] * 13, [True], (0, "0"), 0, Twin(0))
        for value in ODD_VALUES + wrong + tuple([value] for value in UNITS + NEAR_UNITS):
            self.assert_error(InvalidNumbers, from_schur, value, None, value=value)
        for value in ODD_VALUES + NEAR_UNITS:
            self.assert_error(InvalidNumber, from_schur, [HALF], value, value=value)
            self.assert_error(InvalidNumber, from_schur, [], value, value=value)


class Next(Looks, unittest.TestCase):
    def test_what_is_let_next(self):
        chance = Chance(196)
        for many in range(1, 12):
            row = from_schur([chance.small() for _ in range(many)], HALF).knock(many)
            middle, width = next_knock(row)
            self.assertEqual((middle.__class__, width.__class__), (Twin, Ratio))
            little = Ratio(1, 10 ** 6)
            for unit in UNITS:
                way = Twin(1) * unit
                self.assert_answer(True, knocks_let(row + [middle + way * width]))
                self.assert_answer(True, knocks_let(row + [middle + way * (width - little)]))
                self.assert_answer(False, knocks_let(row + [middle + way * (width + little)]))
            if many < 4:
                self.assertEqual(next_spot([(0, row)], 0), (middle, width * width))

    def test_an_only_one(self):
        for unit in UNITS:
            for many in range(4):
                box = from_schur([THIRD] * many, unit)
                for length in range(many + 1, 13):
                    row = box.knock(length)
                    self.assertEqual(next_knock(row), (box.knock(length + 1)[length], Ratio(0)))

    def test_by_hand(self):
        self.assertEqual(next_knock([HALF]), (Twin(0), Ratio(3, 4)))
        self.assertEqual(next_knock(row=(HALF, Ratio(3, 8))), (Twin(Ratio(-3, 32)), Ratio(9, 16)))
        self.assertEqual(next_knock([HALF, Ratio(3, 4)]), (Twin(Ratio(-3, 8)), Ratio(0)))
        self.assertEqual(next_knock([1]), (Twin(0), Ratio(0)))
        self.assertEqual(next_knock([0] * 12), (Twin(0), Ratio(1)))

    def test_not_let(self):
        for row in ([2], [HALF, 1], [1, HALF], [0, 0, NEAR_UNITS[0]], [HALF, Ratio(3, 4), 0]):
            self.assert_error(NotDoable, next_knock, row)


if __name__ == "__main__":
    unittest.main()
