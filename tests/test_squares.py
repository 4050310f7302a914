"""Squares and bars (points 22, 23 and 25)."""

import unittest
from itertools import combinations

from neverlouder.bars import bar, is_bar, least_part
from neverlouder.errors import InvalidTable
from neverlouder.ranks import determinant, signs
from neverlouder.ratios import Ratio
from neverlouder.squares import is_never_below, is_squares, squares
from neverlouder.tables import form, picked
from neverlouder.twins import Twin
from tests.helper import Chance, Exact, Looks, exact, exacts, total
from tests.test_tables import NO_TABLES, ODD_TABLES, ODD_VALUES, SIDED, TABLES, tables

HOLLOW = ([[0, 1], [1, 0]], [[0, Twin(0, 1)], [Twin(0, -1), 0]], [[0, 0, 0], [0, 0, 2], [0, 2, 0]])
LOW = [[1, 2], [2, 1]]
MOST_DIGITS = 3000


def never_below(seed, many):
    """Tables that are never below, many of a rank below their size, some with rows of noughts."""
    chance = Chance(seed)
    found = [[[0]], [[0] * 3] * 3, [[2, 0], [0, 0]], [[0, 0], [0, 1]], [[1, 2], [2, 4]], SIDED]
    for _ in range(many):
        found.append(chance.signed_table(chance.below(5), chance.below(3), 0) or [[1]])
    return found


def below(seed, many):
    chance = Chance(seed)
    found = [[[-1]], LOW, [[0, 0], [0, -2]], [[1, 0], [0, -1]]] + list(HOLLOW)
    for _ in range(many):
        found.append(chance.signed_table(chance.below(4), chance.below(3), 1 + chance.below(2)))
    return found


def numbers_in(value):
    if isinstance(value, (list, tuple)):
        return [one for part in value for one in numbers_in(part)]
    if isinstance(value, Twin):
        return numbers_in([value.plain, value.side])
    if isinstance(value, Ratio):
        return [value.top, value.bottom]
    return [value]


class Squares(Looks, unittest.TestCase):
    def test_of_tables_never_below(self):
        for table in never_below(21, 60):
            self.assert_answer(True, is_never_below(table))
            found = squares(table)
            self.assert_squares(table, found)
            self.assert_answer(True, is_squares(table, found))
            self.assertIsNone(bar(table))
            self.assertIsNone(least_part(table))

    def assert_squares(self, table, found):
        self.assertIs(found.__class__, list)
        self.assertLessEqual(len(found), 200)
        for one in found:
            self.assertIs(one.__class__, tuple)
            number, row = one
            self.assertIs(number.__class__, Ratio)
            self.assertEqual(number.sign, 1)
            self.assert_twins(row)
            self.assertEqual(len(row), len(table))
        for i, row in enumerate(table):
            for j, value in enumerate(row):
                parts = [exact(number) * exact(told[i]) * exact(told[j]).mirror() for number, told in found]
                self.assertEqual(total(parts).twin(), exact(value).twin())

    def test_of_tables_below(self):
        for table in below(22, 40):
            self.assert_answer(False, is_never_below(table))
            self.assertIsNone(squares(table))
            self.assert_bar(table, bar(table))

    def assert_bar(self, table, found):
        self.assert_twins(found)
        self.assertEqual(len(found), len(table))
        self.assertEqual(form(table, found).sign, -1)
        self.assert_answer(True, is_bar(table, found))

    def test_never_both(self):
        for table in tables(23, 80, 6):
            low = signs(table)[2] > 0
            self.assert_answer(not low, is_never_below(table))
            self.assertEqual(squares(table) is None, low)
            self.assertEqual(bar(table) is None, not low)
            if low:
                self.assert_bar(table, bar(table))
            else:
                self.assert_squares(table, squares(table))

    def test_sizes_of_answers(self):
        chance = Chance(24)
        great = 10 ** 12

        def number():
            return Ratio(chance.below(great), 1 + chance.below(great))

        table = [[Twin(number(), number()) for _ in range(8)] for _ in range(8)]
        for i in range(8):
            table[i][i] = Ratio(great * (great - chance.below(99)), 1 + chance.below(great))
            for j in range(i):
                table[i][j] = table[j][i].mirror()
        found = squares(table)
        self.assert_squares(table, found)
        self.assertLess(max([abs(one) for one in numbers_in(found)]), 10 ** MOST_DIGITS)
        # A little more is taken from the last value than it can lose.
        table[7][7] = table[7][7] - found[7][0] * exact(found[7][1][7]).twin().size() - Ratio(1, great)
        self.assertEqual(signs(table), (7, 0, 1))
        weights = bar(table)
        self.assert_bar(table, weights)
        self.assertLess(max([abs(one) for one in numbers_in(weights)]), 10 ** MOST_DIGITS)

    def test_repeated(self):
        plain = [[2, 1], [1, Ratio(4, 2)]]
        told = [[Twin(2), Ratio(1)], [Twin(1), 2]]
        self.assertEqual(squares(plain), squares(told))
        self.assertEqual(bar(LOW), bar(((Twin(1), Ratio(2)), (2, 1))))


class AnySquares(Looks, unittest.TestCase):
    def test_other_squares(self):
        half = Ratio(1, 2)
        good = (
            [(2, [1, Twin(0, -half)]), (half, [0, 1])], ((2, (1, Twin(0, -half))), (half, (0, 1))),
            [(1, [1, 0]), (1, [1, Twin(0, -1)])], [(half, [2, Twin(0, -1)]), (half, [0, Twin(0, 1)])],
            [(1, [1, 0]), (1, [1, Twin(0, -1)]), (5, [0, 0])], [(1, [Twin(0, 1), 0]), (1, [Twin(0, 1), Twin(1)])],
        )
        for value in good:
            self.assert_answer(True, is_squares(SIDED, value))

    def test_no_squares(self):
        one, two = (1, [1, 0]), (1, [1, Twin(0, -1)])
        bad = (
            [], [one], [two], [one, two, two], [one, (1, [1, Twin(0, 1)])], [[1, [1, 0]], two], [one + (1,), two],
            [(1, [1]), two], [(1, [1, 0, 0]), two], [one, two, (0, [1, 0])], [one, two, (-1, [0, 0])],
            [(True, [1, 0]), two], [(1, [True, 0]), two], [(Twin(1), [1, 0]), two], [("1", [1, 0]), two], [one, two, ()],
            [one, two, None], {one[0]: one[1]}, one, [(1, {0: 1, 1: 0}), two], [one, two, (1, [0, False])], "[]",
        )
        for value in ODD_VALUES + bad + (1, Ratio(1), Twin(1), SIDED):
            self.assert_answer(False, is_squares(SIDED, value))

    def test_of_noughts(self):
        for value, wanted in (([], True), ((), True), ([(1, [0])], True), ([(1, [1])], False), (None, False), ({}, False)):
            self.assert_answer(wanted, is_squares([[0]], value))

    def test_of_tables_below(self):
        for value in ([], [(1, [1, 2])], [(1, [1, 2]), (3, [0, 1])], squares(SIDED)):
            self.assert_answer(False, is_squares(LOW, value))


class Bars(Looks, unittest.TestCase):
    def test_any_bars(self):
        for value in ([1, -1], (1, -1), [Ratio(1, 2), Ratio(-1, 3)], [Twin(0, 1), Twin(0, -1)]):
            self.assert_answer(True, is_bar(LOW, value))
        bad = ([1, 1], [0, 0], [1], [1, -1, 0], [], [1, True], [True, -1], [1, Twin(0, 1)], {1: -1}, 1, [[1], [-1]])
        for value in ODD_VALUES + bad + (LOW,):
            self.assert_answer(False, is_bar(LOW, value))

    def test_form_0_is_no_bar(self):
        self.assert_answer(False, is_bar([[1, 2], [2, 4]], [2, -1]))
        self.assert_answer(False, is_bar([[1, 0], [0, -1]], [1, 1]))
        self.assert_answer(True, is_bar([[1, 0], [0, -1]], [1, Ratio(11, 10)]))

    def test_least_part(self):
        self.assertEqual([least_part([[-1]]), least_part(LOW), least_part([[0, 0], [0, -1]])], [0, 1, 1])
        self.assertEqual([least_part(table) for table in HOLLOW], [1, 1, 2])
        self.assertIsNone(least_part([[0]]))

    def test_least_part_by_signs(self):
        for table in below(25, 30) + never_below(26, 20) + tables(27, 40, 6):
            lows = [k for k in range(len(table)) if signs(picked(table, list(range(k + 1))))[2] > 0]
            self.assertEqual(least_part(table), lows[0] if lows else None)

    def test_by_determinants(self):
        for table in tables(28, 60, 4) + never_below(29, 10):
            many = range(len(table))
            parts = [list(part) for size in many for part in combinations(many, size + 1)]
            wanted = all([determinant(picked(table, part)).sign >= 0 for part in parts])
            self.assert_answer(wanted, is_never_below(table))


class WrongTables(Looks, unittest.TestCase):
    def test_wrong(self):
        for value in NO_TABLES + ODD_TABLES:
            for call in (is_never_below, squares, bar, least_part):
                self.assert_error(InvalidTable, call, value, value=value)
            for call in (is_squares, is_bar):
                for other in (None, [], [1]):
                    self.assert_error(InvalidTable, call, value, other, value=value)

    def test_forms_of_squares(self):
        chance = Chance(30)
        for table in never_below(31, 9) + list(TABLES[:1]):
            weights = chance.values(len(table))
            parts = [
                exact(number) * Exact(total([a * b for a, b in zip(exacts(row), exacts(weights))]).size())
                for number, row in squares(table)
            ]
            self.assertEqual(total(parts).twin(), Twin(form(table, weights)))


if __name__ == "__main__":
    unittest.main()
