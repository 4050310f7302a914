"""Lots of tolds that are doable together, and what is left out (point 77)."""

import unittest
from itertools import combinations

from neverlouder.choices import fewest_out, greatest_lots, is_doable_lot
from neverlouder.made import is_doable
from neverlouder.ratios import Ratio
from neverlouder.twins import Twin
from tests.helper import HALF, ODD_VALUES, UNITS, Chance, Looks

SOME = [(0, [0]), (HALF, [Ratio(3, 4)]), (Ratio(1, 4), [2])]


def samples(seed, many):
    """Tellings of which some lots are doable, most of them not as a whole."""
    chance = Chance(seed)
    found = []
    for _ in range(many):
        shape = chance.pick(([1] * 3, [1] * 5, [2, 1, 2], [1, 1, 2, 1], [1] * 6, [3, 3]))
        telling = []
        for point, count in zip(chance.points(len(shape)), shape):
            telling.append((point, [chance.pick((chance.small(), chance.pick(UNITS), 0)) for _ in range(count)]))
        found.append(telling)
    return found


def all_lots(telling):
    positions = range(len(telling))
    return [list(lot) for many in range(len(telling) + 1) for lot in combinations(positions, many)]


def lots_by_words(telling):
    return [lot for lot in all_lots(telling) if not lot or is_doable([telling[at] for at in lot])]


class Lots(Looks, unittest.TestCase):
    def test_by_words(self):
        for telling in samples(321, 12):
            doable = lots_by_words(telling)
            for lot in all_lots(telling):
                self.assert_answer(lot in doable, is_doable_lot(telling, lot))
                self.assert_answer(lot in doable, is_doable_lot(telling, tuple(lot)))
            greatest = [lot for lot in doable if not [more for more in doable if set(lot) < set(more)]]
            found = greatest_lots(telling)
            self.assertEqual(found, sorted(greatest))
            self.assertEqual({one.__class__ for one in found}, {list})
            outs = [[at for at in range(len(telling)) if at not in lot] for lot in doable]
            self.assertEqual(fewest_out(telling), min(outs, key=lambda out: (len(out), out)))

    def test_parts_of_lots_are_lots(self):
        for telling in samples(322, 6):
            for lot in greatest_lots(telling):
                for at in range(len(lot)):
                    self.assert_answer(True, is_doable_lot(telling, lot[:at] + lot[at + 1:]))

    def test_by_hand(self):
        self.assertEqual(greatest_lots(SOME), [[0], [1]])
        self.assertEqual(fewest_out(telling=SOME), [0, 2])
        self.assert_answer(True, is_doable_lot(telling=SOME, value=[]))
        self.assert_answer(True, is_doable_lot(SOME, (1,)))
        self.assert_answer(False, is_doable_lot(SOME, [2]))
        self.assert_answer(False, is_doable_lot(SOME, [0, 1]))

    def test_all_of_it(self):
        for telling in ([(0, [HALF])], [(0, [HALF]), (HALF, [HALF]), (Ratio(1, 3), [HALF, 0])]):
            every = list(range(len(telling)))
            self.assertEqual((greatest_lots(telling), fewest_out(telling)), ([every], []))
            self.assert_answer(True, is_doable_lot(telling, every))

    def test_none_of_it(self):
        telling = [(0, [2]), (HALF, [Twin(0, 3)])]
        self.assertEqual((greatest_lots(telling), fewest_out(telling)), ([[]], [0, 1]))
        self.assert_answer(True, is_doable_lot(telling, ()))

    def test_the_shortest_then_the_least(self):
        telling = [(0, [0]), (HALF, [Ratio(9, 10)]), (Ratio(-1, 2), [Ratio(-9, 10)]), (Ratio(1, 4), [5])]
        # The first one goes with none of the others, these two go together.
        self.assertEqual(greatest_lots(telling), [[0], [1], [2]])
        self.assertEqual(fewest_out(telling), [0, 1, 3])
        telling = [(0, [0]), (HALF, [Ratio(9, 10)]), (Ratio(1, 3), [Ratio(9, 10)])]
        self.assertEqual((greatest_lots(telling), fewest_out(telling)), ([[0], [1, 2]], [0]))

    def test_any_value(self):
        telling = [(0, [HALF]), (HALF, [HALF])]
        wrong = ODD_VALUES + (
            [2], [-1], [0, 0], [1, 0], [0, 1, 2], [0, True], [False], [Ratio(0)], [Twin(0)], (1, 1), ["0"], [None],
            0, 1, {0: 1}, "01", [[0]], range(1), [0, 1, 1], [10 ** 12],
        )
        for value in wrong:
            self.assert_answer(False, is_doable_lot(telling, value))
        for value in ([], (), [0], [1], [0, 1], (0, 1)):
            self.assert_answer(True, is_doable_lot(telling, value))


if __name__ == "__main__":
    unittest.main()
