"""Made tables and bars within a bound (points 71, 72 and 75)."""

import unittest

from neverlouder.boxes import Box
from neverlouder.bounds import bar_within, is_bar_within, is_doable_within, made_table_within
from neverlouder.built import box_of
from neverlouder.errors import InvalidBound
from neverlouder.made import is_doable, made_table, mixture_in, mixture_out, telling_of
from neverlouder.ratios import Ratio
from neverlouder.tables import form, is_table
from neverlouder.tones import force_table
from neverlouder.twins import Twin
from tests.helper import HALF, NEAR_UNITS, ODD_VALUES, POINTS, Chance, Looks

BOUNDS = (1, 2, Ratio(1, 2), Ratio(9, 4), Ratio(1, 100), 1000)
TELLING = [(0, [1]), (HALF, [2])]


def samples(seed, many):
    chance = Chance(seed)
    found = []
    for _ in range(many):
        shape = chance.shape(6)
        points = chance.points(len(shape))
        found.append([(point, chance.values(answers)) for point, answers in zip(points, shape)])
    return found


class MadeTables(Looks, unittest.TestCase):
    def test_by_words(self):
        for telling in samples(201, 15):
            force, made = force_table(telling), made_table(telling)
            for bound in BOUNDS:
                found = made_table_within(telling, bound)
                self.assert_rows(found)
                self.assertTrue(is_table(found))
                # The same is taken off as from the force table itself.
                wanted = [
                    [entry + one * (Ratio(-1) + bound) for entry, one in zip(row, line)] for row, line in zip(made, force)
                ]
                self.assertEqual(found, wanted)

    def test_the_worth_at_weights(self):
        chance = Chance(202)
        for telling in samples(203, 10):
            weights = chance.values(sum([len(told) for _, told in telling]))
            for bound in BOUNDS:
                wanted = Ratio(1) * bound * mixture_in(telling, weights) - mixture_out(telling, weights)
                self.assertEqual(form(made_table_within(telling, bound), weights), wanted)

    def test_within_1_it_is_the_made_table(self):
        for telling in samples(204, 10):
            for one in (1, Ratio(1), Ratio(5, 5)):
                self.assertEqual(made_table_within(telling, one), made_table(telling))

    def test_by_hand(self):
        found = made_table_within(telling=TELLING, bound=7)
        self.assertEqual([[str(one) for one in row] for row in found], [["6", "5"], ["5", "4"]])


class DoableWithin(Looks, unittest.TestCase):
    def test_by_hand(self):
        for bound, wanted in ((7, False), (8, True), (Ratio(15, 2), True), (Ratio(29, 4), False), (10 ** 12, True)):
            self.assert_answer(wanted, is_doable_within(TELLING, bound))
        self.assert_answer(True, is_doable_within(telling=[(0, [0, 0, 0])], bound=Ratio(1, 10 ** 12)))
        for number in (2, Twin(0, -2), Twin(Ratio(6, 5), Ratio(8, 5))):
            for bound, wanted in ((4, True), (Ratio(3999, 1000), False), (Ratio(4001, 1000), True)):
                self.assert_answer(wanted, is_doable_within([(0, [number])], bound))

    def test_greater_bounds(self):
        for telling in samples(205, 15):
            found = [is_doable_within(telling, bound) for bound in (Ratio(1, 4), 1, 4, 100, 10 ** 6)]
            # From where it is doable on it stays so.
            self.assertEqual(found, sorted(found))
            self.assert_answer(is_doable(telling), found[1])

    def test_answers_times_a_value(self):
        for telling in samples(206, 10):
            for by in (2, Twin(0, HALF), Twin(1, 1)):
                other = [(point, [Twin(1) * by * one for one in told]) for point, told in telling]
                for bound in BOUNDS:
                    wanted = is_doable_within(telling, bound)
                    self.assert_answer(wanted, is_doable_within(other, (Twin(1) * by).size() * bound))

    def test_what_boxes_do(self):
        chance = Chance(207)
        for by in (HALF, 3, Twin(1, 2)):
            box = box_of((chance.steps(2)[0], 1))
            top, base = box.curves()
            loud = Box([one * by for one in top], base)
            for many in range(1, 5):
                telling = telling_of(loud, [POINTS[chance.below(4)]], many)
                self.assert_answer(True, is_doable_within(telling, (Twin(1) * by).size()))


class Bars(Looks, unittest.TestCase):
    def test_bars(self):
        seen = []
        for telling in samples(208, 15) + [TELLING]:
            for bound in BOUNDS:
                found = bar_within(telling, bound)
                seen.append(found is None)
                self.assertEqual(found is None, is_doable_within(telling, bound))
                if found is not None:
                    self.assert_twins(found)
                    self.assert_answer(True, is_bar_within(telling, bound, found))
                    # What they show is more than the bound.
                    out = mixture_out(telling, found)
                    self.assertTrue((mixture_in(telling, found) * bound).is_below(out))
        self.assertIn(True, seen)
        self.assertIn(False, seen)

    def test_is_bar_within(self):
        chance = Chance(209)
        for telling in samples(210, 10):
            for bound in BOUNDS:
                weights = chance.values(sum([len(told) for _, told in telling]))
                wanted = form(made_table_within(telling, bound), weights).sign < 0
                self.assert_answer(wanted, is_bar_within(telling, bound, weights))

    def test_by_hand(self):
        self.assert_answer(True, is_bar_within(TELLING, 4, [1, -1]))
        self.assert_answer(True, is_bar_within(telling=TELLING, bound=7, value=(-5, 6)))
        self.assert_answer(False, is_bar_within(TELLING, 8, (-5, 6)))
        self.assert_answer(False, is_bar_within(TELLING, 4, [0, 0]))
        self.assertIsNone(bar_within(TELLING, 8))

    def test_any_value(self):
        for bound in (1, 100):
            for value in ODD_VALUES + ([], [1], [1] * 3, [True, 1], [1, None], [1, [1]], 2, Twin(1)):
                self.assert_answer(False, is_bar_within(TELLING, bound, value))


class Wrong(Looks, unittest.TestCase):
    def test_wrong_bounds(self):
        values = ODD_VALUES + (0, -1, Ratio(0), Ratio(-1, 10 ** 9), Twin(1), Twin(0, 1)) + NEAR_UNITS[:1]
        for value in values:
            for call in (made_table_within, is_doable_within, bar_within):
                self.assert_error(InvalidBound, call, TELLING, value, value=value)
            self.assert_error(InvalidBound, is_bar_within, TELLING, value, None, value=value)


if __name__ == "__main__":
    unittest.main()
