"""Distances, and what is let two by two (points 64 and 65)."""

import unittest

from neverlouder.distances import distance, far_pair, lone_spots, round_spot, two_let
from neverlouder.errors import InvalidPoint, InvalidRatio, NotTwo, TooLoud
from neverlouder.made import is_doable
from neverlouder.ratios import Ratio
from neverlouder.spots import spot
from neverlouder.turns import Turn
from neverlouder.twins import Twin
from tests.helper import HALF, NEAR_UNITS, ODD_VALUES, POINTS, UNITS, Chance, Exact, Looks, exact

THIRD = Ratio(1, 3)


class Distances(Looks, unittest.TestCase):
    def test_by_words(self):
        for one in POINTS:
            for two in POINTS:
                found = distance(one, two)
                z, y = exact(one), exact(two)
                wanted = (z - y).size() / (Exact(1) - z.mirror() * y).size()
                self.assert_ratio(found, wanted.numerator, wanted.denominator)
                self.assertEqual(found, distance(two, one))
                self.assertTrue(found.is_below(1))
                self.assertEqual(found.sign == 0, one is two)

    def test_turns_keep_it(self):
        for unit, point in zip(UNITS, POINTS[1:]):
            turn = Turn(unit, point)
            for one in POINTS:
                for two in POINTS:
                    self.assertEqual(distance(turn.at(one), turn.at(two)), distance(one, two))

    def test_by_hand(self):
        self.assert_ratio(distance(HALF, Ratio(-1, 2)), 16, 25)
        self.assert_ratio(distance(point=0, other_point=Twin(0, HALF)), 1, 4)
        self.assert_ratio(distance(HALF, Twin(HALF)), 0)

    def test_wrong(self):
        for value in ODD_VALUES + UNITS + NEAR_UNITS:
            self.assert_error(InvalidPoint, distance, value, None, value=value)
            self.assert_error(InvalidPoint, distance, HALF, value, value=value)


class RoundSpots(Looks, unittest.TestCase):
    def test_points_in_it(self):
        # Just the points that are at most so far away are in the spot.
        for point in POINTS:
            for ratio in (0, Ratio(1, 9), Ratio(1, 4), Ratio(16, 25), Ratio(99, 100)):
                middle, square = round_spot(point, ratio)
                self.assertEqual((middle.__class__, square.__class__), (Twin, Ratio))
                for other in POINTS + (Ratio(1, 5), Twin(HALF, HALF)):
                    near = distance(point, other).is_at_most(ratio)
                    self.assertEqual((middle - other).size().is_at_most(square), near)

    def test_by_hand(self):
        self.assertEqual(round_spot(HALF, Ratio(1, 4)), (Twin(Ratio(2, 5)), Ratio(4, 25)))
        self.assertEqual(round_spot(point=0, ratio=Ratio(1, 2)), (Twin(0), HALF))
        for ratio in (0, Ratio(0)):
            self.assertEqual(round_spot(Twin(0, THIRD), ratio), (Twin(0, THIRD), Ratio(0)))

    def test_wrong(self):
        for value in ODD_VALUES + UNITS + NEAR_UNITS:
            self.assert_error(InvalidPoint, round_spot, value, None, value=value)
        for value in ODD_VALUES + (1, 2, -1, Ratio(1), Ratio(-1, 10 ** 9), Ratio(7, 6), Twin(0), Twin(HALF)):
            self.assert_error(InvalidRatio, round_spot, HALF, value, value=value)


class TwoLet(Looks, unittest.TestCase):
    def test_two_let(self):
        chance = Chance(181)
        seen = []
        for _ in range(60):
            one, two = chance.points(2)
            first, second = [chance.pick((chance.small(), chance.pick(UNITS))) for _ in range(2)]
            telling = [(one, [first]), (two, [second])]
            found = two_let(telling)
            seen.append(found)
            self.assert_answer(is_doable(telling), found)
            sizes = [(Twin(1) * number).size() for number in (first, second)]
            if sizes[0].is_below(1) and sizes[1].is_below(1):
                self.assertEqual(found, distance(first, second).is_at_most(distance(one, two)))
            else:
                self.assertEqual(found, Twin(1) * first == Twin(1) * second)
        self.assertIn(True, seen)
        self.assertIn(False, seen)

    def test_by_hand(self):
        for number, wanted in ((HALF, True), (Twin(0, HALF), True), (Ratio(500001, 1000000), False), (1, False)):
            self.assert_answer(wanted, two_let([(0, [0]), (HALF, [number])]))
        for number, wanted in ((1, True), (Twin(1), True), (-1, False), (0, False), (2, False)):
            self.assert_answer(wanted, two_let(telling=((0, (1,)), (HALF, [number]))))
        self.assert_answer(False, two_let([(0, [2]), (HALF, [2])]))

    def test_not_two(self):
        for telling in (
            [(0, [0])], [(0, [0, 0])], [(0, [0, 0]), (HALF, [0])], [(0, [0]), (HALF, [0, 0])], [(0, [2]), (HALF, [2, 2])],
            [(0, [0]), (HALF, [0]), (THIRD, [0])], [(0, [0, 0]), (HALF, [0, 0])],
        ):
            self.assert_error(NotTwo, two_let, telling)


class FarPairs(Looks, unittest.TestCase):
    def test_the_first_one(self):
        chance = Chance(182)
        seen = []
        for _ in range(40):
            telling = chance.telling(chance.shape(6))
            every = range(len(telling))
            wanted = [
                (i, j) for i in every for j in every
                if i < j and not two_let([(telling[k][0], telling[k][1][:1]) for k in (i, j)])
            ]
            found = far_pair(telling)
            seen.append(found is None)
            self.assertEqual(found, wanted[0] if wanted else None)
            if found is not None:
                self.assertIs(found.__class__, tuple)
                self.assertFalse(is_doable(telling))
        self.assertIn(True, seen)
        self.assertIn(False, seen)

    def test_by_hand(self):
        self.assertEqual(far_pair([(0, [0]), (HALF, [HALF]), (THIRD, [HALF])]), (0, 2))
        self.assertEqual(far_pair([(0, [0]), (HALF, [0]), (THIRD, [HALF, 7]), (Ratio(1, 4), [1])]), (0, 2))
        self.assertEqual(far_pair([(0, [0]), (HALF, [0]), (THIRD, [1])]), (0, 2))
        self.assertEqual(far_pair([(0, [1]), (HALF, [1]), (THIRD, [1]), (Ratio(1, 4), [-1])]), (0, 3))
        self.assertEqual(far_pair([(0, [2]), (HALF, [2])]), (0, 1))
        self.assertIsNone(far_pair(telling=[(0, [0]), (HALF, [HALF])]))
        self.assertIsNone(far_pair([(0, [2])]))
        self.assertIsNone(far_pair([(0, [0, 5, 5]), (HALF, [0, 9])]))

    def test_let_two_by_two_and_not_all_three(self):
        telling = [(0, [0]), (HALF, [HALF]), (THIRD, [0])]
        self.assertIsNone(far_pair(telling[:2]))
        found = [(0, [0]), (Twin(0, HALF), [Ratio(2, 5)]), (Twin(0, Ratio(-1, 2)), [Ratio(2, 5)])]
        self.assertIsNone(far_pair(found))
        self.assertFalse(is_doable([(0, [0]), (Twin(0, HALF), [HALF]), (Twin(0, Ratio(-1, 2)), [HALF])]))
        self.assertIsNone(far_pair([(0, [0]), (Twin(0, HALF), [HALF]), (Twin(0, Ratio(-1, 2)), [HALF])]))


class LoneSpots(Looks, unittest.TestCase):
    def test_spots_of_each_told_alone(self):
        chance = Chance(183)
        for _ in range(10):
            telling = chance.telling(chance.shape(5))
            for point in chance.points(3) + [telling[0][0]]:
                found = lone_spots(telling, point)
                self.assertIs(found.__class__, list)
                self.assertEqual(found, [spot([(place, told[:1])], point) for place, told in telling])
                for one in found:
                    self.assertEqual([one.__class__, one[0].__class__, one[1].__class__], [tuple, Twin, Ratio])

    def test_by_hand(self):
        telling = [(0, [0, 5]), (HALF, [1]), (THIRD, [Twin(0, -1)])]
        wanted = [(Twin(0), Ratio(1, 4)), (Twin(1), Ratio(0)), (Twin(0, -1), Ratio(0))]
        self.assertEqual(lone_spots(telling=telling, point=HALF), wanted)
        self.assertEqual(lone_spots([(0, [HALF])], 0), [(Twin(HALF), Ratio(0))])
        self.assertEqual(lone_spots([(0, [HALF])], HALF), [(Twin(Ratio(2, 5)), Ratio(4, 25))])

    def test_loud_answers(self):
        for loud in NEAR_UNITS:
            for at in range(3):
                telling = [(point, [1, 5]) for point in POINTS[:3]]
                telling[at] = (POINTS[at], [loud])
                self.assert_error(TooLoud, lone_spots, telling, HALF, position=at)
        self.assert_error(TooLoud, lone_spots, [(0, [1]), (HALF, [2]), (THIRD, [3])], 0, position=1)

    def test_wrong(self):
        for value in ODD_VALUES + UNITS + NEAR_UNITS:
            self.assert_error(InvalidPoint, lone_spots, [(0, [2])], value, value=value)


if __name__ == "__main__":
    unittest.main()
