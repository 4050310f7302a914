"""Signs, ranks, determinants, what comes to nothing (points 23 and 24)."""

import unittest
from itertools import permutations

from neverlouder.errors import InvalidTable
from neverlouder.ranks import determinant, nothing, rank, signs
from neverlouder.ratios import Ratio
from neverlouder.tables import form, shared
from neverlouder.twins import Twin
from tests.helper import Chance, Exact, Looks, exact, exacts, total, twins
from tests.test_tables import NO_TABLES, ODD_TABLES, SIDED, tables

# Tables without a value at (i, i): a step of the second kind is wanted.
HOLLOW = (
    ([[0, 1], [1, 0]], (1, 0, 1), -1),
    ([[0, Twin(1, 2)], [Twin(1, -2), 0]], (1, 0, 1), -5),
    ([[0, 0, 0], [0, 0, 3], [0, 3, 0]], (1, 1, 1), 0),
    ([[0, 1, 0, 0], [1, 0, 0, 0], [0, 0, 0, Twin(0, 2)], [0, 0, Twin(0, -2), 0]], (2, 0, 2), 4),
    ([[0, 1, 1], [1, 0, 1], [1, 1, 0]], (1, 0, 2), 2),
    ([[0, 0, 1], [0, -2, 0], [1, 0, 0]], (1, 0, 2), 2),
)


def leibniz(table):
    """The determinant, by all sequences."""
    found = Exact(0)
    many = range(len(table))
    for order in permutations(many):
        turns = len([1 for i in many for j in range(i) if order[j] > order[i]])
        part = Exact((-1) ** turns)
        for i in many:
            part = part * exact(table[i][order[i]])
        found = found + part
    return found


def rank_of(rows):
    """The rank, by steps over Fractions."""
    left = [exacts(row) for row in rows]
    found = 0
    for at in range(len(rows[0]) if rows else 0):
        lead = [row for row in left if row[at].size() != 0][:1]
        for pivot in lead:
            found += 1
            left = [
                [one - two * (row[at] / pivot[at]) for one, two in zip(row, pivot)] for row in left if row is not pivot
            ]
    return found


class Signs(Looks, unittest.TestCase):
    def test_known_signs(self):
        chance = Chance(41)
        for _ in range(80):
            wanted = (chance.below(4), chance.below(3), chance.below(4))
            if sum(wanted) in range(1, 9):
                self.assert_signs(chance.signed_table(*wanted), wanted)

    def assert_signs(self, table, wanted):
        found = signs(table)
        self.assertIs(found.__class__, tuple)
        self.assertEqual(found, wanted)
        self.assertEqual(rank(table), wanted[0] + wanted[2])

    def test_second_kind(self):
        for table, wanted, _ in HOLLOW:
            self.assert_signs(table, wanted)

    def test_by_hand(self):
        self.assert_signs([[0]], (0, 1, 0))
        self.assert_signs([[-2]], (0, 0, 1))
        self.assert_signs([[0] * 8 for _ in range(8)], (0, 8, 0))
        self.assert_signs(SIDED, (2, 0, 0))
        self.assert_signs([[1, Twin(0, 1)], [Twin(0, -1), 1]], (1, 1, 0))

    def test_turned_sequence(self):
        for table in tables(42, 40, 6):
            turned = [row[::-1] for row in table[::-1]]
            self.assertEqual(signs(turned), signs(table))
            self.assertEqual(sum(signs(table)), len(table))


class Determinants(Looks, unittest.TestCase):
    def test_second_kind(self):
        for table, _, wanted in HOLLOW:
            self.assert_ratio(determinant(table), wanted)

    def test_by_all_sequences(self):
        for table in tables(43, 60, 5):
            wanted = leibniz(table)
            self.assertEqual(wanted.side, 0)
            self.assert_ratio(determinant(table), wanted.plain.numerator, wanted.plain.denominator)

    def test_made_rows(self):
        chance = Chance(44)
        for _ in range(20):
            self.assert_ratio(determinant(chance.signed_table(1 + chance.below(3), 1, chance.below(3))), 0)


class Nothing(Looks, unittest.TestCase):
    def samples(self):
        chance = Chance(45)
        made = [chance.signed_table(chance.below(4), 1 + chance.below(3), chance.below(3)) for _ in range(40)]
        return made + tables(46, 40, 6) + [table for table, _, _ in HOLLOW]

    def test_ranks(self):
        for table in self.samples():
            self.assertEqual(rank(table), rank_of(table))
            self.assertEqual(len(nothing(table)), len(table) - rank(table))

    def test_weights(self):
        for table in self.samples():
            found = nothing(table)
            self.assert_rows(found)
            made = [at for at in range(len(table)) if rank_of(table[:at + 1]) == rank_of(table[:at])]
            self.assertEqual(len(found), len(made))
            for at, weights in zip(made, found):
                self.assert_nothing(table, weights, at, made)

    def assert_nothing(self, table, weights, at, made):
        self.assertEqual(len(weights), len(table))
        self.assertEqual(weights[at], Twin(1))
        for other in range(len(table)):
            if other > at or (other in made and other != at):
                self.assertEqual(weights[other], Twin(0))
        held = exacts(weights)
        for j in range(len(table)):
            column = total([held[i] * exact(table[i][j]) for i in range(len(table))])
            self.assertEqual(column.twin(), Twin(0))
        self.assert_ratio(form(table, weights), 0)

    def test_by_hand(self):
        self.assertEqual(nothing([[0]]), [[Twin(1)]])
        self.assertEqual(nothing([[2]]), [])
        self.assertEqual(nothing([[1, 2], [2, 4]]), [[Twin(-2), Twin(1)]])
        self.assertEqual(nothing([[0, 0], [0, 3]]), [[Twin(1), Twin(0)]])
        self.assertEqual(nothing([[1, Twin(0, 1)], [Twin(0, -1), 1]]), [[Twin(0, 1), Twin(1)]])
        self.assertEqual(nothing(((Ratio(1), 0, 1), (0, 0, 0), (1, 0, 1))), [
            [Twin(0), Twin(1), Twin(0)], [Twin(-1), Twin(0), Twin(1)],
        ])

    def test_shared_by_them(self):
        chance = Chance(47)
        for _ in range(10):
            table = chance.signed_table(2, 2, 0)
            rows = nothing(table)
            self.assertEqual(shared(table, rows), [twins([Exact(0)] * 2)] * 2)


class WrongTables(Looks, unittest.TestCase):
    def test_wrong(self):
        for value in NO_TABLES + ODD_TABLES:
            for call in (signs, rank, determinant, nothing):
                self.assert_error(InvalidTable, call, value, value=value)


if __name__ == "__main__":
    unittest.main()
