"""Mirrored tables (points 21, 25 and 26)."""

import unittest

from neverlouder.errors import (
    InvalidPositions, InvalidRatio, InvalidRows, InvalidTable, InvalidWeights, UnlikeSizes,
)
from neverlouder.ranks import signs
from neverlouder.ratios import Ratio
from neverlouder.squares import is_never_below
from neverlouder.tables import entry_product, form, is_table, picked, plus_tables, shared, times_table
from neverlouder.twins import Twin
from tests.helper import ODD_VALUES, Chance, Exact, Looks, as_tuples, exact, exacts, total, twins

SIDED = [[2, Twin(0, 1)], [Twin(0, -1), 1]]
TABLES = (
    [[0]], [[-3]], [[Ratio(1, 2)]], SIDED, [[0, 1], [1, 0]], as_tuples(SIDED), [SIDED[0], tuple(SIDED[1])],
    [[1, 2, 3], [2, 4, Twin(5, 1)], [3, Twin(5, -1), 0]], [[0] * 8 for _ in range(8)],
)
NO_TABLES = (
    [], (), [[]], [1], [[1, 2]], [[1], [2]], [[1, 2], [3, 1]], [[Twin(0, 1)]], [[1, Twin(0, 1)], [Twin(0, 1), 1]],
    [[1, 2], [2]], [[1, 2], [2, 1, 0]], [[1, True], [True, 1]], [[False]], [[1, "2"], ["2", 1]], [[None]], "1",
    [[0] * 9 for _ in range(9)], [{0: 1}], {0: [1]}, [[[1]]], [[1, 2], 3], [[1, Twin(2, 1)], [Twin(2, 1), 1]],
)
ODD_TABLES = tuple([value for value in ODD_VALUES if value != [[1]]])


def tables(seed, many, most=5):
    chance = Chance(seed)
    return [chance.table(1 + chance.below(most)) for _ in range(many)]


def wanted_form(table, weights):
    many = range(len(table))
    held = exacts(weights)
    return total([held[i] * exact(table[i][j]) * held[j].mirror() for i in many for j in many])


class Kinds(Looks, unittest.TestCase):
    def test_which_are_tables(self):
        for value in TABLES + tuple(tables(1, 20, 8)):
            self.assert_answer(True, is_table(value))
        for value in NO_TABLES + ODD_TABLES + (0, Ratio(1), Twin(1)):
            self.assert_answer(False, is_table(value))


class Forms(Looks, unittest.TestCase):
    def test_forms(self):
        chance = Chance(2)
        for table in TABLES + tuple(tables(3, 20)):
            for weights in (chance.values(len(table)), tuple(chance.values(len(table))), [0] * len(table)):
                wanted = wanted_form(table, weights)
                self.assertEqual(wanted.side, 0)
                self.assert_ratio(form(table, weights), wanted.plain.numerator, wanted.plain.denominator)

    def test_mirror_of_the_second(self):
        self.assert_ratio(form(SIDED, [1, Twin(0, 1)]), 5)
        self.assert_ratio(form(SIDED, [1, Twin(0, -1)]), 1)

    def test_wrong(self):
        for value in NO_TABLES + ODD_TABLES:
            self.assert_error(InvalidTable, form, value, None, value=value)
        for value in ODD_VALUES + ([], [1], [1, 2, 3], [1, True], [1, None], (1, "2"), [[1], [2]], 1, Twin(1)):
            self.assert_error(InvalidWeights, form, SIDED, value, value=value)


class Made(Looks, unittest.TestCase):
    def pairs(self):
        some = list(TABLES) + tables(4, 30, 3)
        return [(one, two) for one in some for two in some if len(one) == len(two)]

    def assert_table(self, found, wanted):
        self.assert_rows(found)
        self.assertTrue(is_table(found))
        self.assertEqual(found, [twins(row) for row in wanted])

    def test_sums(self):
        for one, two in self.pairs():
            wanted = [[exact(a) + exact(b) for a, b in zip(up, down)] for up, down in zip(one, two)]
            self.assert_table(plus_tables(one, two), wanted)

    def test_entry_products(self):
        for one, two in self.pairs():
            wanted = [[exact(a) * exact(b) for a, b in zip(up, down)] for up, down in zip(one, two)]
            self.assert_table(entry_product(one, two), wanted)

    def test_multiples(self):
        for table in TABLES + tuple(tables(5, 9)):
            for ratio in (0, 1, -2, Ratio(1, 2)):
                wanted = [[exact(one) * exact(ratio) for one in row] for row in table]
                self.assert_table(times_table(table, ratio), wanted)

    def test_shared(self):
        chance = Chance(6)
        for table in TABLES + tuple(tables(7, 20, 4)):
            for many in (1, 2, 3, 8):
                rows = [chance.values(len(table)) for _ in range(many)]
                wanted = [[self.share(table, exacts(one), exacts(two)) for two in rows] for one in rows]
                self.assert_table(shared(table, rows), wanted)
                self.assert_table(shared(as_tuples(table), as_tuples(rows)), wanted)

    def share(self, table, one, two):
        many = range(len(table))
        return total([one[k] * exact(table[k][m]) * two[m].mirror() for k in many for m in many])

    def test_shared_by_free_rows(self):
        chance = Chance(8)
        for table in tables(9, 30, 5):
            self.assertEqual(signs(shared(table, chance.free_rows(len(table)))), signs(table))

    def test_never_below_stays(self):
        chance = Chance(10)
        for _ in range(15):
            one, two = chance.signed_table(2, 1, 0), chance.signed_table(1, 2, 0)
            rows = [chance.values(3) for _ in range(4)]
            made = (plus_tables(one, two), entry_product(one, two), times_table(one, Ratio(2, 3)), shared(one, rows))
            for table in made:
                self.assertTrue(is_never_below(table))

    def test_picked(self):
        table = TABLES[7]
        for positions in ([0], [1, 0], (2, 0, 1), [0, 1, 2], [2]):
            self.assert_table(picked(table, positions), [[exact(table[i][j]) for j in positions] for i in positions])
        self.assertEqual(picked(SIDED, [1, 0]), [[Twin(1), Twin(0, -1)], [Twin(0, 1), Twin(2)]])

    def test_unlike_sizes(self):
        for call in (plus_tables, entry_product):
            self.assert_error(UnlikeSizes, call, [[1]], SIDED, first=1, second=2)
            self.assert_error(UnlikeSizes, call, TABLES[8], SIDED, first=8, second=2)

    def test_wrong_tables(self):
        for value in NO_TABLES + ODD_TABLES:
            for call in (plus_tables, entry_product):
                self.assert_error(InvalidTable, call, value, [[1]], value=value)
                self.assert_error(InvalidTable, call, SIDED, value, value=value)
            for call in (times_table, shared, picked):
                self.assert_error(InvalidTable, call, value, None, value=value)

    def test_wrong_ratios(self):
        for value in ODD_VALUES + (Twin(1), [1]):
            self.assert_error(InvalidRatio, times_table, SIDED, value, value=value)

    def test_wrong_rows(self):
        bad = ([], (), [1, 2], [[1]], [[1, 2], [1]], [[1, 2, 3]], [[1, True]], [[1, 2]] * 9, {0: [1, 2]}, [[1, 2], None])
        for value in ODD_VALUES + bad:
            self.assert_error(InvalidRows, shared, SIDED, value, value=value)

    def test_wrong_positions(self):
        bad = ([], (), [2], [-1], [0, 0], [0, 1, 0], [0, True], [False], [Ratio(1)], [Twin(0)], ["0"], 0, [[0]], {0: 1})
        for value in ODD_VALUES + bad:
            self.assert_error(InvalidPositions, picked, SIDED, value, value=value)


if __name__ == "__main__":
    unittest.main()
