"""Made tables, mixtures, kinds, and what boxes do (points 8 and 35 to 37)."""

import unittest
from fractions import Fraction

from neverlouder.bars import bar
from neverlouder.boxes import Box
from neverlouder.built import box_of
from neverlouder.errors import (
    InvalidBox, InvalidMany, InvalidPoints, InvalidTelling, InvalidWeights, NoWorth, TooMany,
)
from neverlouder.made import does, is_doable, kind, made_table, mixture_in, mixture_out, telling_of
from neverlouder.played import answers, force
from neverlouder.ranks import rank
from neverlouder.ratios import Ratio
from neverlouder.squares import is_never_below
from neverlouder.tables import form, is_table
from neverlouder.tones import force_table, tone
from neverlouder.twins import Twin
from tests.helper import NEAR_UNITS, ODD_VALUES, POINTS, UNITS, Chance, Exact, Looks, exact, exacts, fraction, total

HALF = Ratio(1, 2)
NEAR = (0, HALF, Ratio(-1, 3), Twin(0, HALF), Twin(Ratio(-1, 4), Ratio(1, 4)), Ratio(1, 4))
TINY = Fraction(1, 10 ** 9)
SHAPES = ([1], [4], [2, 1], [1, 1, 1], [3, 3], [4, 2], [1, 2, 3], [1, 1, 1, 1, 1, 1], [2, 2, 2])


def made_by_hand(telling):
    """The force table less A times it times A turned and mirrored, by Fractions."""
    force_rows = [exacts(row) for row in force_table(telling)]
    rows = []
    for at, (_, told) in enumerate(telling):
        ahead = sum([len(one) for _, one in telling[:at]])
        for j in range(len(told)):
            row = [Exact(0)] * len(force_rows)
            for i in range(j + 1):
                row[ahead + i] = exact(told[j - i])
            rows.append(row)
    every = range(len(rows))
    return [
        [
            force_rows[i][j] - total([rows[i][k] * force_rows[k][m] * rows[j][m].mirror() for k in every for m in every])
            for j in every
        ]
        for i in every
    ]


class MadeTables(Looks, unittest.TestCase):
    def test_single_answers(self):
        chance = Chance(81)
        for _ in range(10):
            points = chance.points(4)
            worths = chance.values(4)
            found = made_table([(point, [one]) for point, one in zip(points, worths)])
            self.assert_rows(found)
            for i in range(4):
                for j in range(4):
                    above = Exact(1) - exact(worths[i]) * exact(worths[j]).mirror()
                    below = Exact(1) - exact(points[i]) * exact(points[j]).mirror()
                    self.assertEqual(found[i][j], (above / below).twin())

    def test_several_answers(self):
        chance = Chance(82)
        for shape in SHAPES:
            points = chance.points(len(shape))
            telling = [(point, chance.values(many)) for point, many in zip(points, shape)]
            found = made_table(telling)
            self.assertTrue(is_table(found))
            self.assertEqual(found, [[one.twin() for one in row] for row in made_by_hand(telling)])

    def test_by_hand(self):
        found = made_table([(0, [HALF]), (HALF, [Ratio(9, 10)])])
        self.assertEqual([[str(one) for one in row] for row in found], [["3/4", "11/20"], ["11/20", "19/75"]])
        found = made_table([(0, [HALF, 1])])
        self.assertEqual([[str(one) for one in row] for row in found], [["3/4", "-1/2"], ["-1/2", "-1/4"]])

    def test_without_answers_it_is_the_force_table(self):
        for shape in SHAPES:
            telling = [(point, [0] * many) for point, many in zip(POINTS, shape)]
            self.assertEqual(made_table(telling), force_table(telling))


class Mixtures(Looks, unittest.TestCase):
    def test_forms(self):
        chance = Chance(83)
        for shape in SHAPES:
            points = chance.points(len(shape))
            telling = [(point, chance.values(many)) for point, many in zip(points, shape)]
            weights = chance.values(sum(shape))
            heard, made = mixture_in(telling, weights), mixture_out(telling, weights)
            self.assertEqual((heard.__class__, made.__class__), (Ratio, Ratio))
            self.assertEqual(heard, form(force_table(telling), weights))
            self.assertEqual(heard - made, form(made_table(telling), weights))

    def test_mixtures_that_are_played(self):
        # 60 moments of the mixture, and what a box makes of them, but for what they leave out.
        chance = Chance(84)
        for shape in SHAPES:
            box = box_of(chance.steps(3))
            telling = telling_by_hand(box, NEAR[:len(shape)], shape)
            weights = chance.values(sum(shape))
            tones = [exacts(tone(point, 60, j)) for point, many in zip(NEAR, shape) for j in range(many)]
            mixed = [total([exact(by) * row[k] for by, row in zip(weights, tones)]).twin() for k in range(60)]
            for found, row in ((mixture_in(telling, weights), mixed), (mixture_out(telling, weights), answers(box, mixed))):
                self.assertLess(abs(fraction(found) - fraction(force(row))), TINY)

    def test_by_hand(self):
        telling = [(0, [HALF]), (HALF, [Ratio(9, 10)])]
        weights = [Ratio(-11, 20), Ratio(3, 4)]
        self.assertEqual(mixture_out(telling, weights) - mixture_in(telling, weights), Ratio(27, 320))
        self.assert_ratio(mixture_in([(0, [2, 3])], [1, Twin(0, 1)]), 2)
        self.assert_ratio(mixture_out([(0, [2, 3])], [1, Twin(0, 1)]), 17)
        self.assert_ratio(mixture_out(telling, [0, 0]), 0)

    def test_wrong_weights(self):
        telling = [(0, [1, 2]), (HALF, [1])]
        for call in (mixture_in, mixture_out):
            for value in ODD_VALUES + ([], [1], [1, 2], [1] * 4, [1, 2, True], 3):
                self.assert_error(InvalidWeights, call, telling, value, value=value)


def telling_by_hand(box, points, shape):
    return [(point, box.around(point, many)) for point, many in zip(points, shape)]


class Kinds(Looks, unittest.TestCase):
    def assert_kind(self, wanted, telling):
        found = kind(telling)
        self.assertIs(found.__class__, str)
        self.assertEqual(found, wanted)
        self.assert_answer(wanted != "none", is_doable(telling))
        made = made_table(telling)
        self.assertEqual(wanted == "none", bar(made) is not None)
        self.assertEqual(wanted == "many", is_never_below(made) and rank(made) == len(made))

    def test_by_hand(self):
        third = Ratio(1, 3)
        tellings = (
            ("many", [(0, [HALF])]), ("many", [(0, [0]), (HALF, [Ratio(2, 5)])]), ("many", [(0, [HALF, Ratio(1, 2)])]),
            ("one", [(0, [HALF, Ratio(3, 4)])]), ("one", [(0, [HALF, Twin(0, Ratio(-3, 4))])]),
            ("none", [(0, [HALF, Ratio(4, 5)])]), ("none", [(0, [0]), (HALF, [Ratio(3, 4)])]),
            ("one", [(0, [0]), (HALF, [HALF])]), ("one", [(0, [0]), (HALF, [HALF]), (third, [third])]),
            ("none", [(0, [0]), (HALF, [HALF]), (third, [0])]), ("one", [(0, [HALF]), (HALF, [Ratio(4, 5)])]),
            ("none", [(0, [2])]), ("none", [(0, [0]), (HALF, [0]), (third, [Twin(0, 2)])]),
        )
        for wanted, telling in tellings:
            self.assert_kind(wanted, telling)

    def test_answers_of_size_1(self):
        for unit in UNITS:
            for shape in ([1], [3], [1, 1], [2, 1], [1, 1, 2]):
                telling = [(point, [unit] + [0] * (many - 1)) for point, many in zip(POINTS, shape)]
                self.assert_kind("one", telling)
            self.assert_kind("none", [(0, [unit, HALF])])
            self.assert_kind("none", [(0, [unit]), (HALF, [0])])
            self.assert_kind("none", [(0, [0]), (HALF, [unit])])
            self.assert_kind("none", [(0, [unit]), (HALF, [-(Twin(1) * unit)])])
        for loud in NEAR_UNITS:
            self.assert_kind("none", [(HALF, [loud])])
            self.assert_kind("none", [(0, [0]), (HALF, [loud])])

    def test_what_never_louder_boxes_do(self):
        chance = Chance(85)
        for many in range(5):
            for last in (0, HALF) + UNITS[2:4]:
                box = box_of((chance.steps(many)[0], last))
                for shape in SHAPES[:7]:
                    telling = telling_by_hand(box, POINTS, shape)
                    wanted = "one" if last in UNITS and many < sum(shape) else "many"
                    self.assert_kind(wanted, telling)

    def test_what_a_louder_box_does(self):
        # 1 + x is louder somewhere: enough answers show it.
        kinds = [kind(telling_by_hand(Box([HALF, 1], [1]), [0], [many])) for many in range(1, 5)]
        self.assertEqual(kinds, ["many", "none", "none", "none"])

    def test_a_telling_less_is_no_harder(self):
        chance = Chance(86)
        kinds = []
        for _ in range(40):
            telling = chance.telling(chance.shape(4))
            kinds.append(kind(telling))
            for at in range(len(telling)):
                left = telling[:at] + telling[at + 1:]
                if left and kinds[-1] != "none":
                    self.assertNotEqual(kind(left), "none")
        self.assertIn("many", kinds)
        self.assertIn("none", kinds)


class Does(Looks, unittest.TestCase):
    def test_does(self):
        box = Box([0, 2], [4, 2])
        self.assert_answer(True, does(box, [(0, [0, HALF])]))
        self.assert_answer(True, does(box, [(0, [0, HALF, Ratio(-1, 4), Ratio(1, 8)]), (HALF, [Ratio(1, 5)])]))
        self.assert_answer(False, does(box, [(0, [0, HALF, Ratio(1, 4)])]))
        self.assert_answer(False, does(box, [(0, [0, HALF]), (HALF, [Ratio(1, 4)])]))
        self.assert_answer(False, does(box, [(0, [HALF])]))
        self.assert_answer(True, does(box=Box([2], [1]), telling=((0, (Twin(2), 0)), (HALF, [Ratio(4, 2)]))))

    def test_without_a_worth(self):
        box = Box([1], [1, -2])
        for told in ([0], [1], [2, 3]):
            self.assert_answer(False, does(box, [(HALF, told)]))
            self.assert_answer(False, does(box, [(0, [1, 2]), (HALF, told)]))
        self.assert_answer(True, does(box, [(0, [1, 2])]))

    def test_what_it_is_told_to_do(self):
        chance = Chance(87)
        for _ in range(10):
            box = Box(chance.curve(4), [1] + chance.curve(3))
            for point in chance.points(3):
                try:
                    told = box.around(point, 3)
                except NoWorth:
                    continue
                self.assert_answer(True, does(box, [(point, told)]))
                self.assert_answer(False, does(box, [(point, told[:2] + [told[2] + Ratio(1, 10 ** 9)])]))

    def test_wrong(self):
        for value in ODD_VALUES:
            self.assert_error(InvalidBox, does, value, [], value=value)
        self.assert_error(InvalidTelling, does, Box([1], [1]), [], position=None)


class TellingsOfBoxes(Looks, unittest.TestCase):
    def test_telling_of(self):
        chance = Chance(88)
        for many, most in ((1, 6), (2, 3), (3, 2), (4, 1)):
            for length in range(1, most + 1):
                box = box_of((chance.steps(3)[0], HALF))
                points = chance.points(length)
                found = telling_of(box, points, many)
                self.assertIs(found.__class__, list)
                self.assertEqual(len(found), length)
                for point, (place, told) in zip(points, found):
                    self.assertEqual(place, Twin(1) * point)
                    self.assertEqual(told, box.around(point, many))
                    self.assert_twins(told)
                self.assert_answer(True, does(box, found))
                self.assertTrue(is_doable(found))

    def test_by_hand(self):
        box = Box([0, 2], [4, 2])
        self.assertEqual(telling_of(box, (0,), 2), [(Twin(0), [Twin(0), Twin(HALF)])])
        found = telling_of(box=box, points=[HALF, Twin(0)], many=1)
        self.assertEqual(found, [(Twin(HALF), [Twin(Ratio(1, 5))]), (Twin(0), [Twin(0)])])

    def test_wrong(self):
        box = Box([1], [1, -2])
        for value in ODD_VALUES:
            self.assert_error(InvalidBox, telling_of, value, None, None, value=value)
        seven = [Ratio(1, k) for k in range(2, 9)]
        points = ([], [0, 0], [0, Ratio(0)], [HALF, 0, Twin(HALF)], [1], [0, Twin(0, 1)], [0, True], seven, (0, None))
        for value in ODD_VALUES + points:
            self.assert_error(InvalidPoints, telling_of, box, value, None, value=value)
        for value in ODD_VALUES + (-1, 0, 5, 60, Ratio(1), Twin(1)):
            self.assert_error(InvalidMany, telling_of, box, [HALF], value, value=value)

    def test_too_many(self):
        box = Box([1], [1, -2])
        for points, many in (([HALF, 0, Ratio(1, 3), Ratio(1, 4)], 2), ([HALF, 0, Ratio(1, 3)], 3), ([0, HALF], 4)):
            self.assert_error(TooMany, telling_of, box, points, many, what="answers", limit=6)

    def test_no_worth(self):
        box = Box([1], [1, 0, 4])
        place = Twin(0, HALF)
        self.assert_error(NoWorth, telling_of, box, [0, place], 1, point=place)
        self.assert_error(NoWorth, telling_of, box, [Twin(0, Ratio(-1, 2)), place, 0], 2, point=Twin(0, Ratio(-1, 2)))
        self.assert_error(NoWorth, telling_of, Box([1], [1, -2]), [0, HALF], 3, point=HALF)


if __name__ == "__main__":
    unittest.main()
