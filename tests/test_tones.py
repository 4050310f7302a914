"""Tones and force tables (points 33 to 35)."""

import unittest
from fractions import Fraction
from math import comb

from neverlouder.errors import InvalidMany, InvalidPoint
from neverlouder.ratios import Ratio
from neverlouder.tables import is_table
from neverlouder.tones import force_table, tone
from neverlouder.twins import Twin
from tests.helper import NEAR_UNITS, ODD_VALUES, POINTS, UNITS, Chance, Exact, Looks, exact, exacts, total

HALF = Ratio(1, 2)
# All below 1/3 in size: 60 moments of their tones leave next to nothing out.
NEAR = (0, HALF, Ratio(-1, 3), Twin(0, HALF), Twin(Ratio(1, 2), Ratio(-1, 4)), Twin(Ratio(-1, 4), Ratio(1, 4)))
TINY = Fraction(1, 10 ** 9)


def by_hand(point, many, times):
    """The numbers of a tone, by its words."""
    found = []
    for k in reversed(range(many)):
        power = Exact(1)
        for _ in range(k - times):
            power = power * exact(point)
        found.append((Exact(comb(k, times)) * power).twin())
    return found


class Tones(Looks, unittest.TestCase):
    def test_tones(self):
        for point in POINTS + (Ratio(-99, 100),):
            for times in range(4):
                for many in (0, 1, 2, 3, 4, 5, 9):
                    found = tone(point, many, times)
                    self.assert_twins(found)
                    self.assertEqual(found, by_hand(point, many, times))

    def test_by_hand(self):
        self.assertEqual([str(one) for one in tone(HALF, 4, 0)], ["1/8", "1/4", "1/2", "1"])
        self.assertEqual([str(one) for one in tone(Twin(0, HALF), 4, 0)], ["-1/8 i", "-1/4", "1/2 i", "1"])
        self.assertEqual([str(one) for one in tone(HALF, 5, 2)], ["3/2", "3/2", "1", "0", "0"])
        self.assertEqual([str(one) for one in tone(HALF, 5, 3)], ["2", "1", "0", "0", "0"])

    def test_the_point_0(self):
        for times in range(4):
            wanted = [Twin(0)] * 6
            wanted[5 - times] = Twin(1)
            self.assertEqual(tone(0, 6, times), wanted)
            self.assertEqual(tone(Twin(0), times, times), [Twin(0)] * times)

    def test_long(self):
        self.assertEqual(len(tone(HALF, 60, 3)), 60)
        self.assertEqual(tone(HALF, 60, 0)[0], Twin(Ratio(1, 2 ** 59)))
        # A longer row has more numbers in front.
        for times in range(4):
            self.assertEqual(tone(Ratio(-2, 3), 60, times)[-20:], tone(Ratio(-2, 3), 20, times))

    def test_wrong(self):
        for value in ODD_VALUES + UNITS + NEAR_UNITS:
            self.assert_error(InvalidPoint, tone, value, None, None, value=value)
        for value in ODD_VALUES + (-1, 61, 10 ** 12, Ratio(1), Twin(1)):
            self.assert_error(InvalidMany, tone, 0, value, 4, value=value)
        for value in ODD_VALUES + (-1, 4, 5, 60, Ratio(1), Twin(1)):
            self.assert_error(InvalidMany, tone, 0, 60, value, value=value)


class ForceTables(Looks, unittest.TestCase):
    def assert_by_sums(self, telling):
        """Each entry is the sum of the products of two tones, but for what long tones leave out."""
        tones = [exacts(tone(point, 60, times)) for point, told in telling for times in range(len(told))]
        found = force_table(telling)
        self.assert_rows(found)
        self.assertTrue(is_table(found))
        self.assertEqual([len(row) for row in found], [len(tones)] * len(tones))
        for first, row in zip(tones, found):
            for second, entry in zip(tones, row):
                left = exact(entry) - total([one * two.mirror() for one, two in zip(first, second)])
                self.assertLess(left.size(), TINY)

    def test_single_answers(self):
        for i, one in enumerate(NEAR):
            for two in NEAR[:i]:
                telling = [(one, [5]), (two, [Twin(0, 7)])]
                self.assert_by_sums(telling)
                wanted = Exact(1) / (Exact(1) - exact(one) * exact(two).mirror())
                self.assertEqual(force_table(telling)[0][1], wanted.twin())

    def test_several_answers(self):
        for point in NEAR:
            self.assert_by_sums([(point, [1, 2, 3, 4])])
        for shape in ([4, 2], [1, 3, 2], [2, 2, 2], [3, 3], [1, 1, 1, 3]):
            for at in range(3):
                points = (NEAR + NEAR)[at:at + len(shape)]
                self.assert_by_sums([(point, [0] * many) for point, many in zip(points, shape)])

    def test_by_hand(self):
        found = force_table([(HALF, [0, 0])])
        self.assertEqual([[str(one) for one in row] for row in found], [["4/3", "8/9"], ["8/9", "80/27"]])
        found = force_table([(0, [0, 0, 0]), (Twin(0, HALF), [1])])
        self.assertEqual([str(one) for one in found[3]], ["1", "1/2 i", "-1/4", "4/3"])
        self.assertEqual([str(row[3]) for row in found], ["1", "-1/2 i", "-1/4", "4/3"])
        self.assertEqual([row[:3] for row in found[:3]], [[Twin(int(i == k)) for k in range(3)] for i in range(3)])

    def test_answers_do_not_count(self):
        chance = Chance(71)
        for _ in range(5):
            shape = chance.shape(6)
            points = chance.points(len(shape))
            tables = [
                force_table([(point, chance.values(many)) for point, many in zip(points, shape)]) for _ in range(2)
            ]
            self.assertEqual(tables[0], tables[1])


if __name__ == "__main__":
    unittest.main()
