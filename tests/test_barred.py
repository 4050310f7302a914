"""Rest tables, leading tables and bars of tellings (points 47 and 48)."""

import unittest

from neverlouder.barred import bar_of, is_bar_of, leading_table, led_back, rest_table
from neverlouder.built import box_of, steps_of
from neverlouder.errors import InvalidWeights, NoStep
from neverlouder.made import is_doable, made_table, mixture_in, mixture_out
from neverlouder.ratios import Ratio
from neverlouder.steps import step, stepped
from neverlouder.tables import form, is_table
from neverlouder.twins import Twin
from tests.helper import (
    HALF, NEAR_UNITS, ODD_VALUES, POINTS, UNITS, Chance, Exact, Looks, convolved, exact, exacts, total,
)

SHAPES = ([1], [4], [1, 1], [2, 1], [1, 2], [3, 3], [4, 2], [1, 2, 3], [1, 1, 1, 1, 1, 1], [2, 2, 2])
BARRED = (
    [(0, [2])], [(0, [0]), (HALF, [Ratio(3, 4)])], [(0, [HALF, 1])], [(0, [1, HALF])], [(0, [HALF]), (HALF, [1])],
    [(0, [Twin(0, 1), 0, 0, Ratio(1, 10 ** 6)])], [(0, [0]), (HALF, [Ratio(500001, 1000000)])],
    [(HALF, [0]), (Twin(0, HALF), [0]), (Ratio(1, 3), [1000001])],
)


def samples(seed, many):
    chance = Chance(seed)
    return [chance.telling(chance.shape(6)) for _ in range(many)]


def leading_by_hand(telling):
    """The leading table by the words of point 47, the entries of h by Fractions."""
    z, w = exact(telling[0][0]), exact(telling[0][1][0])
    tones = [(at, j) for at, (_, told) in enumerate(telling) for j in range(len(told))][1:]
    columns = [(at, j) for at, (_, told) in enumerate(telling) for j in range(len(told) - (at == 0))]
    found = []
    for at, j in tones:
        entries = h_entries(exact(telling[at][0]), exacts(telling[at][1]), z, w)
        row = []
        for other, i in columns:
            row.append(entries[j - i].twin() if at == other and i <= j else Twin(0))
        found.append(row)
    return found


def h_entries(y, f, z, w):
    """The first entries near y of (x - z) (1 - w' f) by (1 - z' x), as the upper times the lower's series."""
    rest = [Exact(1) - w.mirror() * f[0]] + [Exact(0) - w.mirror() * one for one in f[1:]]
    # 1 by (p - z' t) is the sum of z' ** k t ** k by p ** (k + 1).
    below = Exact(1) - z.mirror() * y
    series = [Exact(1) / below]
    while len(series) < len(f):
        series.append(series[-1] * z.mirror() / below)
    return convolved(convolved([y - z, Exact(1)], rest), series)[:len(f)]


class Tables(Looks, unittest.TestCase):
    def test_rest_table(self):
        for telling in samples(111, 25):
            made = [exacts(row) for row in made_table(telling)]
            found = rest_table(telling)
            self.assert_rows(found)
            many = len(made)
            wanted = [
                [(made[i][j] - made[i][0] * made[0][j] / made[0][0]).twin() for j in range(1, many)]
                for i in range(1, many)
            ]
            self.assertEqual(found, wanted)

    def test_leading_table(self):
        chance = Chance(112)
        for shape in SHAPES:
            telling = chance.telling(shape)
            found = leading_table(telling)
            self.assert_rows(found)
            self.assertEqual(found, leading_by_hand(telling))

    def test_the_fact(self):
        for telling in samples(113, 25):
            leading = [exacts(row) for row in leading_table(telling)]
            number = exact(telling[0][1][0])
            left = stepped(telling, 1)
            made = [] if left is None else [exacts(row) for row in made_table(left)]
            every = range(len(leading))
            wanted = [
                [
                    (total([leading[i][k] * made[k][m] * leading[j][m].mirror() for k in every for m in every])
                        / (Exact(1) - Exact(number.size()))).twin()
                    for j in every
                ]
                for i in every
            ]
            self.assertEqual(rest_table(telling), wanted)

    def test_empty(self):
        for point in POINTS:
            self.assertEqual(rest_table([(point, [HALF])]), [])
            self.assertEqual(leading_table([(point, [HALF])]), [])

    def test_by_hand(self):
        self.assertEqual(leading_table(telling=[(0, [0, HALF])]), [[Twin(1)]])
        self.assertEqual(leading_table([(0, [HALF, 1])]), [[Twin(Ratio(3, 4))]])
        self.assertEqual(rest_table([(0, [HALF, 1])]), [[Twin(Ratio(-7, 12))]])
        self.assertEqual(rest_table([(0, [HALF]), (HALF, [Ratio(4, 5)])]), [[Twin(0)]])

    def test_no_step(self):
        for loud in UNITS + NEAR_UNITS:
            for call in (rest_table, leading_table):
                self.assert_error(NoStep, call, [(0, [loud])])
                self.assert_error(NoStep, call, [(HALF, [loud, 0]), (0, [0])])
            self.assert_error(NoStep, led_back, [(HALF, [loud, 0]), (0, [0])], None)
        for loud in NEAR_UNITS:
            for call in (rest_table, leading_table):
                self.assert_error(NoStep, call, [(0, [0]), (HALF, [loud])])
            self.assert_error(NoStep, led_back, [(0, [0]), (HALF, [loud])], [1])


class LedBack(Looks, unittest.TestCase):
    def test_led_back(self):
        chance = Chance(114)
        for telling in samples(115, 25):
            leading = [exacts(row) for row in leading_table(telling)]
            weights = chance.values(len(leading))
            found = led_back(telling, weights)
            self.assert_twins(found)
            self.assertEqual(len(found), len(leading) + 1)
            behind = exacts(found[1:])
            row = [total([by * line[k] for by, line in zip(behind, leading)]) for k in range(len(leading))]
            self.assertEqual([one.twin() for one in row], [Twin(1) * one for one in weights])
            made = [exacts(line) for line in made_table(telling)]
            first = total([by * line[0] for by, line in zip(behind, made[1:])]) / made[0][0]
            self.assertEqual(found[0], (Exact(0) - first).twin())

    def test_the_form(self):
        chance = Chance(116)
        for telling in samples(117, 25):
            left = stepped(telling, 1)
            if left is not None:
                weights = chance.values(sum([len(told) for _, told in left]))
                by = 1 - step(telling)[1].size()
                wanted = form(made_table(left), weights).over(by)
                self.assertEqual(form(made_table(telling), led_back(telling, weights)), wanted)

    def test_bars_led_back_are_bars(self):
        for telling in [[(0, [HALF, 1])], [(0, [0]), (HALF, [Ratio(3, 4)])], [(HALF, [0, 1]), (0, [Twin(HALF, HALF)])]]:
            left = stepped(telling, 1)
            self.assert_answer(True, is_bar_of(telling, led_back(telling, bar_of(left))))

    def test_by_hand(self):
        self.assertEqual([str(one) for one in led_back([(0, [HALF, 1])], [1])], ["8/9", "4/3"])
        self.assertEqual(led_back([(0, [HALF])], []), [Twin(0)])
        self.assertEqual(led_back(telling=((HALF, (0,)),), weights=()), [Twin(0)])
        # Mirrors would change the sign of the side.
        self.assertEqual(led_back([(0, [0]), (HALF, [0])], [Twin(0, 1)]), [Twin(0, -2), Twin(0, 2)])

    def test_wrong_weights(self):
        for telling, many in (([(0, [HALF])], 0), ([(0, [0, 0, 0]), (HALF, [0])], 3), ([(0, [0]), (HALF, [0])], 1)):
            for value in ODD_VALUES + ([1] * (many + 1), (0,) * (many + 2), [1] * many + [True], "", 0):
                self.assert_error(InvalidWeights, led_back, telling, value, value=value)
        self.assert_error(InvalidWeights, led_back, [(0, [0, 0])], [], value=[])


class Bars(Looks, unittest.TestCase):
    def assert_bar(self, telling):
        """A bar just of each telling that is not doable, and never both: steps and a bar."""
        found = bar_of(telling)
        self.assertEqual(found is None, steps_of(telling) is not None)
        self.assertEqual(found is None, is_doable(telling))
        if found is not None:
            self.assert_twins(found)
            self.assert_answer(True, is_bar_of(telling, found))
            left = mixture_in(telling, found) - mixture_out(telling, found)
            self.assertEqual(left.sign, -1)
            for one in found:
                self.assertLess(max(abs(one.plain.top), one.plain.bottom, abs(one.side.top)), 10 ** 100)

    def test_bars(self):
        for telling in samples(118, 40) + list(BARRED):
            self.assert_bar(telling)

    def test_doable_ones(self):
        chance = Chance(119)
        for last in (0, HALF, 1, Twin(0, -1)):
            box = box_of((chance.steps(2)[0], last))
            for shape in SHAPES[:8]:
                telling = [(point, box.around(point, many)) for point, many in zip(POINTS, shape)]
                self.assertIsNone(bar_of(telling))
                for value in (chance.values(sum(shape)), [0] * sum(shape)):
                    self.assert_answer(False, is_bar_of(telling, value))

    def test_is_bar_of(self):
        chance = Chance(120)
        for telling in samples(121, 10) + list(BARRED):
            self.assertTrue(is_table(made_table(telling)))
            for _ in range(5):
                weights = chance.values(sum([len(told) for _, told in telling]))
                wanted = form(made_table(telling), weights).sign < 0
                self.assert_answer(wanted, is_bar_of(telling, weights))

    def test_by_hand(self):
        self.assert_answer(True, is_bar_of([(0, [HALF, 1])], [0, 1]))
        self.assert_answer(False, is_bar_of([(0, [HALF, 1])], (1, 0)))
        telling = [(0, [HALF]), (HALF, [Ratio(9, 10)])]
        self.assert_answer(True, is_bar_of(telling=telling, value=[Ratio(-11, 20), Ratio(3, 4)]))
        self.assert_answer(False, is_bar_of(telling, [0, 0]))
        self.assertIsNone(bar_of([(0, [HALF]), (HALF, [Ratio(4, 5)])]))

    def test_any_value(self):
        for telling in ([(0, [2])], [(0, [HALF, 1])]):
            for value in ODD_VALUES + ([], [1] * 3, [True, 1], [1, None], [1, [1]], 2, Twin(1)):
                self.assert_answer(False, is_bar_of(telling, value))

    def test_great_numbers(self):
        great = 10 ** 12 - 1
        for shape in ([4, 2], [1] * 6):
            telling = [
                (Twin(Ratio(k, great), Ratio(-1, 2 + k)), [Twin(Ratio(great - 7 * j, great), Ratio(j, 7)) for j in range(many)])
                for k, many in enumerate(shape)
            ]
            self.assert_bar(telling)
            telling[0][1][0] = Ratio(1, great)
            self.assert_bar(telling)


if __name__ == "__main__":
    unittest.main()
