"""Answers to rows, and forces (points 6 and 7)."""

import unittest

from neverlouder.boxes import Box
from neverlouder.errors import InvalidBox, InvalidRow
from neverlouder.played import answers, force, is_softer
from neverlouder.ratios import Ratio
from neverlouder.twins import Twin
from tests.helper import ODD_VALUES, Chance, Exact, Looks, exact, exacts, total, twins
from tests.test_boxes import BOX, boxes
from tests.test_series import entry

HALF = Ratio(1, 2)
BAD_ROWS = ODD_VALUES + (1, Twin(1), [0] * 61, (1,) * 61, [1, True], "101", [1, None])
ROWS = ([], [0], [1], [0, 0, 3], [1, 0, 0, 0], [Twin(1, 2), HALF, -1], (2, Twin(0, 1)), [1, -1, 1, -1, 1])


class Answers(Looks, unittest.TestCase):
    def test_each_moment(self):
        for box in boxes(71, 20) + [BOX, Box([], [1])]:
            top, base = [exacts(curve) for curve in box.curves()]
            for row in ROWS:
                found = answers(box, row)
                self.assert_twins(found)
                self.assertEqual(len(found), len(row))
                heard, made = exacts(row), exacts(found)
                for n in range(len(row)):
                    out = total([entry(base, k) * made[n - k] for k in range(n + 1)])
                    into = total([entry(top, k) * heard[n - k] for k in range(n + 1)])
                    self.assertEqual(out.twin(), into.twin())

    def test_by_hand(self):
        self.assertEqual(answers(BOX, [2, 1, 0]), [Twin(0), Twin(1), Twin(0)])
        self.assertEqual(answers(box=Box([0, 1], [1]), row=(5, Twin(0, 1), 7)), [Twin(0), Twin(5), Twin(0, 1)])
        self.assertEqual(answers(Box([1], [1, -1]), [1, 1, 1]), [Twin(1), Twin(2), Twin(3)])

    def test_empty_and_longest_row(self):
        self.assertEqual(answers(BOX, []), [])
        self.assertEqual(answers(Box([1], [1, -1]), [1] + [0] * 59), [Twin(1)] * 60)
        self.assertEqual(answers(Box([0] * 40 + [1], [1]), [2] * 60), [Twin(0)] * 40 + [Twin(2)] * 20)

    def test_not_in_lowest_terms(self):
        self.assertEqual(answers(Box([0, 1, 1], [2, 3, 1]), [2, 1, 0]), answers(BOX, [2, 1, 0]))

    def test_sums_and_delays(self):
        chance = Chance(72)
        for box in boxes(73, 12):
            one, two = chance.values(6), chance.values(6)
            both = [a + b for a, b in zip(twins(exacts(one)), two)]
            self.assertEqual(answers(box, both), [a + b for a, b in zip(answers(box, one), answers(box, two))])
            self.assertEqual(answers(box, [0] + one), [Twin(0)] + answers(box, one))


class Forces(Looks, unittest.TestCase):
    def test_forces(self):
        for row in ROWS + ([1] * 60,):
            wanted = sum([exact(one).size() for one in row])
            found = force(row)
            self.assertIs(found.__class__, Ratio)
            self.assertEqual(Twin(found), Exact(wanted).twin())
        self.assert_ratio(force(row=[1, Twin(1, 2)]), 6)
        self.assert_ratio(force([]), 0)

    def test_softer(self):
        loud, late = Box([1, 1], [1]), Box([0, 2], [1])
        cases = (
            (BOX, [1, 0, 0], True), (loud, [1, 0, 0], False), (loud, [1, -1, 0], True), (loud, [1], True),
            (loud, [], True), (loud, [0, 0], True), (loud, (0, 0, 1, 0), False), (late, [1], True),
            (late, [1, 1], False), (late, [1, 2], True), (late, [1, 2, 3], False), (Box([2], [1]), [0, 1], False),
            (Box([Twin(0, 1)], [1]), [1, 2, 3], True), (Box([Twin(1, 1)], [1]), [1], False),
        )
        for box, row, wanted in cases:
            self.assert_answer(wanted, is_softer(box, row))

    def test_moment_by_moment(self):
        # At the end all is less than what came in, but not at moment 1.
        late = Box([0, 2], [1])
        self.assertTrue(force(answers(late, [2, 1, 9])).is_below(force([2, 1, 9])))
        self.assert_answer(False, is_softer(late, [2, 1, 9]))

    def test_softer_by_sums(self):
        chance = Chance(74)
        for box in boxes(75, 30):
            row = chance.values(5)
            made = answers(box, row)
            wanted = all([force(made[:n]).is_at_most(force(row[:n])) for n in range(6)])
            self.assert_answer(wanted, is_softer(box=box, row=row))


class Wrong(Looks, unittest.TestCase):
    def test_boxes(self):
        for call in (answers, is_softer):
            for value in ODD_VALUES + (1, [1], ([1], [1]), [[1], [1]], Box):
                self.assert_error(InvalidBox, call, value, [1], value=value)
                self.assert_error(InvalidBox, call, value, None, value=value)

    def test_rows(self):
        for value in BAD_ROWS:
            self.assert_error(InvalidRow, force, value, value=value)
            self.assert_error(InvalidRow, answers, BOX, value, value=value)
            self.assert_error(InvalidRow, is_softer, BOX, value, value=value)


if __name__ == "__main__":
    unittest.main()
