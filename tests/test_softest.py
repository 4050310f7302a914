"""What weights show, and the least bound (points 75 and 76)."""

import unittest

from neverlouder.bounds import bar_within, is_bar_within, is_doable_within
from neverlouder.boxes import Box
from neverlouder.built import box_of
from neverlouder.errors import InvalidBound, InvalidMany, InvalidWeights
from neverlouder.made import mixture_in, mixture_out, telling_of
from neverlouder.ratios import Ratio
from neverlouder.softest import is_softest, shown_by, softest_between
from neverlouder.twins import Twin
from tests.helper import HALF, NEAR_UNITS, ODD_VALUES, UNITS, Chance, Looks, fraction, ratio

LITTLE = Ratio(1, 10 ** 9)
NOUGHTS = ([(0, [0])], [(HALF, [0, 0]), (0, [Twin(0)])])


def samples(seed, many):
    chance = Chance(seed)
    found = []
    for _ in range(many):
        telling = chance.telling(chance.shape(5))
        by = chance.pick((1, 3, Twin(0, HALF), Ratio(1, 10), 30))
        found.append([(point, [Twin(1) * one * by for one in told]) for point, told in telling])
    return found


def is_nought(telling):
    return all([(Twin(1) * one).is_nought for _, told in telling for one in told])


def ends_by_words(telling, many):
    """The halving of point 76, with Fractions."""
    low, high = fraction(0), fraction(1)
    while not is_doable_within(telling, ratio(high)):
        high = high * 2
    while (high - low) * many > 1:
        middle = (low + high) / 2
        if is_doable_within(telling, ratio(middle)):
            high = middle
        else:
            low = middle
    return ratio(low), ratio(high)


class Shown(Looks, unittest.TestCase):
    def test_by_words(self):
        chance = Chance(311)
        for telling in samples(312, 25):
            many = sum([len(told) for _, told in telling])
            weights = [1] + chance.values(many - 1)
            found = shown_by(telling, weights)
            self.assertIs(found.__class__, Ratio)
            self.assertEqual(found, mixture_out(telling, weights).over(mixture_in(telling, weights)))
            # The telling is not doable within a lesser bound.
            if found.sign > 0:
                self.assert_answer(True, is_bar_within(telling, found * (1 - LITTLE), weights))
                self.assert_answer(False, is_bar_within(telling, found, weights))
                self.assert_answer(False, is_doable_within(telling, found * (1 - LITTLE)))

    def test_bars_show_more_than_the_bound(self):
        for telling in samples(313, 15):
            for bound in (1, Ratio(1, 50), 4):
                weights = bar_within(telling, bound)
                if weights is not None:
                    self.assertTrue((Ratio(1) * bound).is_below(shown_by(telling, weights)))

    def test_by_hand(self):
        telling = [(0, [1]), (HALF, [0])]
        self.assertEqual(shown_by(telling, [1, 0]), Ratio(1))
        self.assertEqual(shown_by(telling=telling, weights=(0, Twin(0, 5))), Ratio(0))
        self.assertEqual(shown_by([(0, [Twin(1, 2)])], [Twin(3, -1)]), Ratio(5))

    def test_wrong(self):
        telling = [(0, [1]), (HALF, [0])]
        wrong = ODD_VALUES + ([], [1], [1, 2, 3], [0, 0], (0, Twin(0)), [Ratio(0), 0], [True, 1], [1, None], 1, Twin(1))
        for value in wrong:
            self.assert_error(InvalidWeights, shown_by, telling, value, value=value)


class Ends(Looks, unittest.TestCase):
    def test_by_words(self):
        for telling in samples(314, 8) + list(NOUGHTS):
            for many in (1, 2, 3, 10, 1000):
                found = softest_between(telling, many)
                self.assertEqual((found.__class__, len(found)), (tuple, 2))
                self.assertEqual([one.__class__ for one in found], [Ratio, Ratio])
                self.assertEqual(found, ends_by_words(telling, many))

    def test_between(self):
        for telling in samples(315, 12):
            low, high = softest_between(telling, 64)
            self.assertTrue(((high - low) * 64).is_at_most(1))
            self.assert_answer(True, is_doable_within(telling, high))
            if low.sign > 0:
                self.assert_answer(False, is_doable_within(telling, low))

    def test_by_hand(self):
        self.assertEqual(softest_between([(0, [1])], 1), (Ratio(0), Ratio(1)))
        self.assertEqual(softest_between([(0, [1])], 4), (Ratio(3, 4), Ratio(1)))
        self.assertEqual(softest_between([(0, [1])], 3), (Ratio(3, 4), Ratio(1)))
        self.assertEqual(softest_between(telling=[(0, [2])], many=1), (Ratio(3), Ratio(4)))
        self.assertEqual(softest_between([(0, [3])], 1), (Ratio(8), Ratio(9)))
        self.assertEqual(softest_between([(0, [0]), (HALF, [1])], 2), (Ratio(7, 2), Ratio(4)))
        self.assertEqual(softest_between([(0, [3])], 1000), (Ratio(9) - Ratio(1, 1024), Ratio(9)))

    def test_noughts(self):
        for telling in NOUGHTS:
            self.assertEqual(softest_between(telling, 1), (Ratio(0), Ratio(1)))
            self.assertEqual(softest_between(telling, 8), (Ratio(0), Ratio(1, 8)))
            self.assertEqual(softest_between(telling, 1000), (Ratio(0), Ratio(1, 1024)))

    def test_wrong(self):
        for value in ODD_VALUES + (0, -1, 1001, 10 ** 12, Ratio(1), Twin(1)):
            self.assert_error(InvalidMany, softest_between, [(0, [1])], value, value=value)


class Softest(Looks, unittest.TestCase):
    def assert_least(self, telling, bound):
        least = Ratio(1) * bound
        self.assert_answer(True, is_softest(telling, bound))
        for other in (least + LITTLE, least - LITTLE * least, least * 2, least.over(2), 1000):
            self.assert_answer(False, is_softest(telling, other))
        self.assert_answer(True, is_doable_within(telling, least))
        self.assert_answer(False, is_doable_within(telling, least - LITTLE * least))

    def test_by_hand(self):
        self.assert_least([(0, [1])], 1)
        self.assert_least([(0, [HALF])], Ratio(1, 4))
        self.assert_least([(0, [Twin(1, 2)])], 5)
        self.assert_least([(0, [0]), (HALF, [1])], 4)
        self.assert_least([(HALF, [2, 0])], 4)
        self.assert_least([(0, [0, 0, Ratio(1, 3)])], Ratio(1, 9))
        self.assert_answer(True, is_softest(telling=[(0, [1]), (HALF, [1])], bound=1))

    def test_what_a_keeper_times_a_number_does(self):
        for unit in UNITS:
            for by in (HALF, 3, Twin(1, 1)):
                top, base = box_of(([(0, HALF), (HALF, Twin(0, HALF))], unit)).curves()
                loud = Box([one * by for one in top], base)
                # Three answers tell what keeps all force with degree 2; it comes to the bound itself.
                for telling in (telling_of(loud, [0, HALF, Ratio(-1, 3)], 1), telling_of(loud, [Twin(0, HALF)], 3)):
                    self.assert_least(telling, (Twin(1) * by).size())

    def test_noughts_have_none(self):
        for telling in NOUGHTS:
            for bound in (1, LITTLE, 10 ** 9):
                self.assert_answer(False, is_softest(telling, bound))

    def test_mostly_no_fraction(self):
        telling = [(0, [1]), (HALF, [2])]
        low, high = softest_between(telling, 1000)
        self.assertTrue(Ratio(7).is_below(low) and high.is_below(8))
        for bound in (low, high, (low + high).over(2), 7, 8):
            self.assert_answer(False, is_softest(telling, bound))

    def test_wrong(self):
        for value in ODD_VALUES + (0, -1, Ratio(0), Twin(1)) + NEAR_UNITS[:1]:
            self.assert_error(InvalidBound, is_softest, [(0, [1])], value, value=value)


if __name__ == "__main__":
    unittest.main()
