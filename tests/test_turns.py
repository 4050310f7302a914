"""Turns of the disc, boxes and tellings moved by them (points 61 to 64)."""

import unittest

from neverlouder.boxes import Box
from neverlouder.built import box_of
from neverlouder.distances import distance
from neverlouder.errors import (
    InvalidBox, InvalidNumber, InvalidPoint, InvalidTurn, InvalidUnit, NoWorth, SamePoint, TooLoud,
)
from neverlouder.made import does, kind, made_table
from neverlouder.played import is_softer
from neverlouder.ratios import Ratio
from neverlouder.turns import Turn, answers_moved, box_moved, box_put, moved_telling, turn_by
from neverlouder.twins import Twin
from tests.helper import HALF, NEAR_UNITS, ODD_VALUES, POINTS, UNITS, Chance, Exact, Looks, exact, exacts, worth

THIRD = Ratio(1, 3)
TURNS = tuple(Turn(unit, point) for unit, point in zip(UNITS + UNITS, POINTS))
# The one that leaves all as it is.
STILL = Turn(1, 0)
NUMBERS = (0, HALF, Twin(0, Ratio(-2, 3)), 1, Twin(0, -1), Twin(Ratio(3, 5), Ratio(-4, 5)), Ratio(-9, 10))


def led(turn, number):
    """The worth of a turn, by its words."""
    c, p = [exact(one) for one in turn.parts()]
    x = exact(number)
    return (c * (x - p) / (Exact(1) - p.mirror() * x)).twin()


def samples(seed, many):
    chance = Chance(seed)
    found = [[(0, [HALF])], [(HALF, [1, 0]), (0, [1])], [(0, [0]), (HALF, [HALF])]]
    for _ in range(many):
        found.append(chance.telling(chance.shape(5)))
    return found


class Turns(Looks, unittest.TestCase):
    def test_at(self):
        for turn in TURNS:
            for number in NUMBERS:
                found = turn.at(number)
                self.assertIs(found.__class__, Twin)
                self.assertEqual(found, led(turn, number))
                self.assertEqual(found.size() == Ratio(1), (Twin(1) * number).size() == Ratio(1))
            self.assertEqual(turn.at(turn.parts()[1]), Twin(0))
        self.assertEqual(str(Turn(1, HALF).at(number=0)), "-1/2")

    def test_parts(self):
        turn = Turn(number=Twin(0, 1), point=HALF)
        self.assertIs(turn.parts().__class__, tuple)
        self.assertEqual(turn.parts(), (Twin(0, 1), Twin(HALF)))

    def test_back(self):
        for turn in TURNS:
            back = turn.back()
            self.assertIs(back.__class__, Turn)
            self.assertEqual(back.back(), turn)
            self.assertEqual(back.behind(turn), STILL)
            self.assertEqual(turn.behind(back), STILL)
            for number in NUMBERS:
                self.assertEqual(back.at(turn.at(number)), Twin(1) * number)
        self.assertEqual(Turn(Twin(0, 1), HALF).back().parts(), (Twin(0, -1), Twin(0, Ratio(-1, 2))))

    def test_behind(self):
        for one in TURNS:
            for two in TURNS:
                found = one.behind(turn=two)
                self.assertIs(found.__class__, Turn)
                for number in NUMBERS:
                    self.assertEqual(found.at(number), one.at(two.at(number)))
                self.assertEqual(found.back(), two.back().behind(one.back()))
            self.assertEqual(one.behind(STILL), one)
            self.assertEqual(STILL.behind(one), one)
        turn = Turn(1, HALF)
        self.assertEqual(turn.behind(turn), Turn(1, Ratio(4, 5)))

    def test_equal(self):
        for i, one in enumerate(TURNS):
            for j, two in enumerate(TURNS):
                self.assert_answer(i == j, one == two)
                self.assert_answer(i != j, one != two)
        self.assert_answer(True, Turn(1, 0) == Turn(Twin(1), Ratio(0)))
        self.assert_answer(False, Turn(1, 0) == Turn(-1, 0))
        for value in ODD_VALUES + ((1, 0), [1, 0], (Twin(1), Twin(0)), Box([0, 1], [1])):
            self.assert_answer(False, STILL == value)
            self.assert_answer(True, STILL != value)

    def test_repr(self):
        self.assertEqual(repr(Turn(1, HALF)), "Turn(1, 1/2)")
        self.assertEqual(repr(Turn(Twin(0, -1), 0)), "Turn(-1 i, 0)")
        turn = Turn(Twin(Ratio(3, 5), Ratio(-4, 5)), Twin(HALF, Ratio(1, 3)))
        self.assertEqual(repr(turn), "Turn(3/5 - 4/5 i, 1/2 + 1/3 i)")
        self.assertEqual(str(turn), repr(turn))

    def test_wrong(self):
        for value in ODD_VALUES + POINTS + NEAR_UNITS:
            self.assert_error(InvalidUnit, Turn, value, 1, value=value)
        for value in ODD_VALUES + UNITS + NEAR_UNITS:
            self.assert_error(InvalidPoint, Turn, 1, value, value=value)
        for value in ODD_VALUES + NEAR_UNITS:
            self.assert_error(InvalidNumber, STILL.at, value, value=value)
        for value in ODD_VALUES + (1, (1, 0), Box([1], [1])):
            self.assert_error(InvalidTurn, STILL.behind, value, value=value)


class Boxes(Looks, unittest.TestCase):
    def boxes(self):
        chance = Chance(171)
        found = [box_of((chance.steps(many)[0], last)) for many in range(4) for last in (0, HALF, UNITS[3])]
        return found + [Box([1, 3], [2, 0, Twin(0, 1)]), Box([0, 0, 2], [1]), Box([], [1]), Box([3], [1])]

    def test_put(self):
        for box in self.boxes():
            top, base = [exacts(curve) for curve in box.curves()]
            for turn in TURNS:
                found = box_put(box, turn)
                self.assertIs(found.__class__, Box)
                for number in (0, Ratio(1, 5), Twin(0, Ratio(-1, 7))):
                    goal = exact(turn.at(number))
                    self.assertEqual(found.worth(number), (worth(top, goal) / worth(base, goal)).twin())
                self.assertEqual(box_put(found, turn.back()), box)
                self.assertLessEqual(found.degree, box.degree)

    def test_moved(self):
        for box in self.boxes():
            for turn in TURNS:
                found = box_moved(box, turn)
                self.assertIs(found.__class__, Box)
                c, p = [exact(one) for one in turn.parts()]
                for number in (0, Ratio(1, 5), Twin(0, Ratio(-1, 7))):
                    f = exact(box.worth(number))
                    self.assertEqual(found.worth(number), (c * (f - p) / (Exact(1) - p.mirror() * f)).twin())
                self.assertEqual(box_moved(found, turn.back()), box)

    def test_one_behind_the_other(self):
        for box in self.boxes()[::3]:
            for one in TURNS[:4]:
                for two in TURNS[4:7]:
                    self.assertEqual(box_moved(box_moved(box, two), one), box_moved(box, one.behind(two)))
                    self.assertEqual(box_put(box_put(box, one), two), box_put(box, one.behind(two)))

    def test_never_louder(self):
        for box in self.boxes()[:12]:
            for turn in TURNS[3:6]:
                for found in (box_put(box, turn), box_moved(box, turn)):
                    self.assertTrue(is_softer(found, [1] + [0] * 15))
                    self.assertTrue(is_softer(found, [Twin(0, 2), 1, HALF, -3, 0, 1, 1]))

    def test_by_hand(self):
        turn = Turn(1, HALF)
        self.assertEqual(box_put(box=Box([0, 1], [1]), turn=turn), Box([-1, 2], [2, -1]))
        self.assertEqual(box_moved(box=Box([0, 1], [1]), turn=turn), Box([-1, 2], [2, -1]))
        self.assertEqual(box_moved(Box([1], [1]), turn), Box([1], [1]))
        self.assertEqual(box_put(Box([THIRD], [1]), turn), Box([THIRD], [1]))
        self.assertEqual(box_moved(Box([HALF], [1]), turn), Box([], [1]))

    def test_great_degrees(self):
        box = Box([0] * 40 + [1], [1])
        turn = Turn(Twin(0, 1), Twin(HALF, THIRD))
        found = box_put(box, turn)
        self.assertEqual(found.degree, 40)
        self.assertEqual(box_put(found, turn.back()), box)
        self.assertEqual(box_moved(box_moved(box, turn), turn.back()), box)

    def test_no_worth(self):
        # The turn leads 0 to -1/2 there, or to i by 2: the base is 0 there.
        self.assert_error(NoWorth, box_put, Box([1], [1, 2]), Turn(1, HALF), point=Twin(Ratio(-1, 2)))
        self.assert_error(NoWorth, box_put, Box([1, 1], [1, 0, 4]), Turn(Twin(0, -1), HALF), point=Twin(0, HALF))
        self.assertEqual(box_put(Box([1], [1, 2]), Turn(-1, HALF)).worth(0), Twin(HALF))
        # 1 - p' f is 0 at 0.
        for box in (Box([2], [1]), Box([2, 1], [1]), Box([2, 0, 1], [1, 5])):
            self.assert_error(NoWorth, box_moved, box, Turn(1, HALF), point=0)
        self.assert_error(NoWorth, box_moved, Box([Twin(0, 3)], [1]), Turn(-1, Twin(0, THIRD)), point=0)

    def test_wrong(self):
        for call in (box_put, box_moved):
            for value in ODD_VALUES:
                self.assert_error(InvalidBox, call, value, None, value=value)
            for value in ODD_VALUES + ((1, 0), Box([1], [1])):
                self.assert_error(InvalidTurn, call, Box([2], [1, 2]), value, value=value)


class Tellings(Looks, unittest.TestCase):
    def assert_telling(self, found, shape):
        self.assertIs(found.__class__, list)
        self.assertEqual([len(told) for _, told in found], shape)
        for one in found:
            self.assertIs(one.__class__, tuple)
            self.assertIs(one[0].__class__, Twin)
            self.assert_twins(one[1])

    def test_put_forms_of_what_boxes_do(self):
        chance = Chance(172)
        for shape in ([1], [4], [2, 1], [1, 1, 1], [3, 3], [1, 2, 3], [4, 2]):
            box = box_of((chance.steps(3)[0], HALF))
            points = chance.points(len(shape))
            telling = [(point, box.around(point, many)) for point, many in zip(points, shape)]
            for turn in TURNS[:5]:
                found = moved_telling(telling, turn)
                self.assert_telling(found, shape)
                self.assertEqual([turn.at(point) for point, _ in found], [Twin(1) * point for point in points])
                self.assert_answer(True, does(box_put(box, turn), found))
                self.assertEqual(moved_telling(found, turn.back()), moved_telling(telling, STILL))

    def test_moved_forms_of_what_boxes_do(self):
        chance = Chance(173)
        for shape in ([1], [4], [2, 1], [1, 1, 1], [3, 3], [1, 2, 3], [4, 2]):
            box = box_of((chance.steps(3)[0], Twin(0, 1)))
            points = chance.points(len(shape))
            telling = [(point, box.around(point, many)) for point, many in zip(points, shape)]
            for turn in TURNS[:5]:
                found = answers_moved(telling, turn)
                self.assert_telling(found, shape)
                self.assertEqual([point for point, _ in found], [Twin(1) * point for point in points])
                self.assert_answer(True, does(box_moved(box, turn), found))
                self.assertEqual(answers_moved(found, turn.back()), answers_moved(telling, STILL))

    def test_all_are_of_one_kind(self):
        for telling in samples(174, 12):
            for turn in TURNS[2:5]:
                self.assertEqual(kind(moved_telling(telling, turn)), kind(telling))
                self.assertEqual(kind(answers_moved(telling, turn)), kind(telling))

    def test_single_answers(self):
        # The entries of the made tables are as point 63 tells.
        chance = Chance(175)
        telling = [(point, [chance.small()]) for point in chance.points(3)]
        made = made_table(telling)
        for turn in TURNS:
            p = turn.parts()[1]
            put, moved = moved_telling(telling, turn), answers_moved(telling, turn)
            self.assertEqual([told for _, told in put], [[Twin(1) * told[0]] for _, told in telling])
            for i in range(3):
                for j in range(3):
                    u, t = put[i][0], put[j][0]
                    below = (1 - p.mirror() * u) * (1 - p * t.mirror())
                    self.assertEqual(made_table(put)[i][j], (made[i][j] * (1 - p.size())).over(below))
                    w, v = Twin(1) * telling[i][1][0], Twin(1) * telling[j][1][0]
                    below = (1 - p.mirror() * w) * (1 - p * v.mirror())
                    self.assertEqual(made_table(moved)[i][j], (made[i][j] * (1 - p.size())).over(below))

    def test_by_hand(self):
        turn = Turn(1, HALF)
        telling = [(0, [HALF, 1]), (HALF, [THIRD])]
        found = moved_telling(telling=telling, turn=turn)
        self.assertEqual(found, [(Twin(HALF), [Twin(HALF), Twin(Ratio(4, 3))]), (Twin(Ratio(4, 5)), [Twin(THIRD)])])
        found = answers_moved(telling=telling, turn=turn)
        self.assertEqual(found, [(Twin(0), [Twin(0), Twin(Ratio(4, 3))]), (Twin(HALF), [Twin(Ratio(-1, 5))])])
        self.assertEqual(moved_telling([(0, [5, 7])], Turn(Twin(0, 1), 0)), [(Twin(0), [Twin(5), Twin(0, 7)])])

    def test_constants(self):
        for unit in UNITS:
            telling = [(0, [unit, 0, 0]), (HALF, [unit])]
            for turn in TURNS:
                number = turn.at(unit)
                nought = Twin(0)
                wanted = [(Twin(0), [number, nought, nought]), (Twin(HALF), [number])]
                self.assertEqual(answers_moved(telling, turn), wanted)
                self.assertEqual(moved_telling(telling, turn)[0][1], [Twin(1) * unit, nought, nought])

    def test_loud_answers(self):
        for loud in NEAR_UNITS:
            for at in range(3):
                telling = [(point, [1, 5]) for point in POINTS[:3]]
                telling[at] = (POINTS[at], [loud])
                self.assert_error(TooLoud, answers_moved, telling, STILL, position=at)
                # The put form is there all the same.
                self.assertEqual(moved_telling(telling, STILL)[at][1], [Twin(1) * loud])
            self.assert_error(TooLoud, answers_moved, [(0, [loud]), (HALF, [loud])], TURNS[1], position=0)

    def test_wrong(self):
        for call in (moved_telling, answers_moved):
            for value in ODD_VALUES + ((1, 0), 1):
                self.assert_error(InvalidTurn, call, [(0, [2])], value, value=value)


class TurnBy(Looks, unittest.TestCase):
    def test_goals_as_far_apart(self):
        for turn in TURNS:
            for i, one in enumerate(POINTS[:4]):
                for two in POINTS[:i]:
                    self.assertEqual(turn_by(one, two, turn.at(one), turn.at(two)), turn)
                    self.assertEqual(distance(turn.at(one), turn.at(two)), distance(one, two))

    def test_none(self):
        for one, two, goal, other in (
            (0, HALF, 0, THIRD), (0, HALF, HALF, HALF), (0, HALF, 0, 0), (0, HALF, THIRD, HALF),
            (Twin(0, HALF), THIRD, 0, Twin(HALF, THIRD)),
        ):
            self.assertIsNone(turn_by(one, two, goal, other))

    def test_by_hand(self):
        self.assertEqual(turn_by(0, HALF, 0, Twin(0, HALF)), Turn(Twin(0, 1), 0))
        self.assertEqual(turn_by(0, HALF, HALF, 0), Turn(-1, HALF))
        found = turn_by(point=HALF, other_point=0, goal=Ratio(-1, 2), other_goal=0)
        self.assertEqual(found, Turn(-1, 0))

    def test_same_point(self):
        for one, two in ((0, 0), (HALF, Twin(HALF)), (Ratio(0), Twin(0))):
            for goals in ((0, 0), (0, HALF)):
                self.assert_error(SamePoint, turn_by, one, two, *goals)

    def test_wrong(self):
        for value in ODD_VALUES + UNITS + NEAR_UNITS:
            for at in range(4):
                given = [0] * at + [value] + [None] * (3 - at)
                self.assert_error(InvalidPoint, turn_by, *given, value=value)


if __name__ == "__main__":
    unittest.main()
