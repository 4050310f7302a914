"""Spots, their rims, and worths that go together (points 54 to 57)."""

import unittest

from neverlouder.boxes import Box
from neverlouder.built import box_of
from neverlouder.errors import InvalidNumber, InvalidPoint, NotDoable, NotOnRim
from neverlouder.made import does, is_doable, kind, made_table
from neverlouder.members import member, only_box
from neverlouder.played import is_softer
from neverlouder.ratios import Ratio
from neverlouder.spots import goes_with, is_in_spot, is_on_rim, next_spot, on_rim_box, spot
from neverlouder.squares import is_never_below
from neverlouder.twins import Twin
from tests.helper import HALF, NEAR_UNITS, ODD_VALUES, POINTS, UNITS, Chance, Looks

THIRD = Ratio(1, 3)
QUARTER = Ratio(1, 4)
ONE = [(0, [HALF])]
NONE = ([(0, [2])], [(0, [0]), (HALF, [Ratio(3, 4)])], [(0, [1, 1])], [(0, [1]), (HALF, [0])])
ONLY = (
    [(0, [1])], [(0, [0]), (HALF, [HALF])], [(0, [HALF, Ratio(3, 4)])], [(HALF, [Twin(0, 1), 0])],
    [(0, [HALF]), (HALF, [Ratio(4, 5)])],
)
# Numbers of size 1, with which places on a rim are made.
RIM = UNITS + (Twin(0, -1), Twin(Ratio(-8, 17), Ratio(15, 17)))


def samples(seed):
    """Tellings with many boxes, that boxes of a few steps do."""
    chance = Chance(seed)
    found = []
    for shape in ([1], [1, 1], [2], [2, 1], [1, 1, 1], [3], [1, 3], [2, 2, 1]):
        box = box_of((chance.steps(2)[0], HALF))
        points = chance.points(len(shape))
        found.append([(point, box.around(point, many)) for point, many in zip(points, shape)])
    return found


def untold(telling):
    told = [Twin(1) * point for point, _ in telling]
    return [point for point in POINTS if Twin(1) * point not in told]


def width_of(telling, point):
    """Some Ratio whose square is at most the half width squared of the spot, and another not below it."""
    square = spot(telling, point)[1]
    low, high = Ratio(0), Ratio(1)
    for _ in range(20):
        between = (low + high) * HALF
        if (between * between).is_at_most(square):
            low = between
        else:
            high = between
    return low, high


class Spots(Looks, unittest.TestCase):
    def assert_spot(self, found):
        self.assertIs(found.__class__, tuple)
        middle, square = found
        self.assertIs(middle.__class__, Twin)
        self.assertIs(square.__class__, Ratio)
        self.assertGreaterEqual(square.sign, 0)

    def test_a_number_is_in_the_spot_if_it_may_be_told_beside(self):
        chance = Chance(151)
        for telling in samples(152):
            if sum([len(told) for _, told in telling]) > 5:
                continue
            for point in untold(telling)[:3]:
                found = spot(telling, point)
                self.assert_spot(found)
                middle, _ = found
                low, high = width_of(telling, point)
                unit = chance.pick(RIM)
                for number in (middle, middle + Twin(low) * unit, middle + Twin(high) * unit, chance.small(), 1):
                    beside = telling + [(point, [number])]
                    self.assert_answer(is_doable(beside), is_in_spot(telling, point, number))
                self.assert_answer(True, is_in_spot(telling, point, middle + Twin(low) * unit))
                self.assert_answer(False, is_in_spot(telling, point, middle + Twin(high) * unit))

    def test_worths_of_members_fill_it(self):
        chance = Chance(153)
        for telling in samples(154):
            point = untold(telling)[0]
            for free in (Box([], [1]), Box([chance.small()], [1]), Box([0, 1], [1]), Box([1], [1])):
                worth = member(telling, free).worth(point)
                self.assert_answer(True, is_in_spot(telling, point, worth))
                unit = free in (Box([1], [1]),)
                self.assert_answer(unit, is_on_rim(telling, point, worth))

    def test_told_points(self):
        for telling in samples(155) + list(ONLY):
            for point, told in telling:
                self.assertEqual(spot(telling, point), (Twin(1) * told[0], Ratio(0)))
                self.assert_answer(True, is_in_spot(telling, point, told[0]))
                self.assert_answer(True, is_on_rim(telling, point, told[0]))
                for other in (Twin(5), Twin(Ratio(1, 10 ** 9))):
                    self.assert_answer(False, is_in_spot(telling, point, other + told[0]))
                    self.assert_answer(False, is_on_rim(telling, point, other + told[0]))

    def test_only_boxes(self):
        for telling in ONLY:
            box = only_box(telling)
            for point in untold(telling):
                worth = box.worth(point)
                self.assertEqual(spot(telling, point), (worth, Ratio(0)))
                self.assert_answer(True, is_in_spot(telling, point, worth))
                self.assert_answer(True, is_on_rim(telling, point, worth))
                self.assert_answer(False, is_in_spot(telling, point, worth + Ratio(1, 10 ** 9)))
                self.assert_answer(True, is_doable(telling + [(point, [worth])]))

    def test_told_more_makes_it_smaller(self):
        for telling in samples(156):
            point, other = untold(telling)[:2]
            more = telling + [(other, [spot(telling, other)[0]])]
            if sum([len(told) for _, told in more]) <= 6:
                self.assertTrue(spot(more, point)[1].is_at_most(spot(telling, point)[1]))
                self.assert_answer(True, is_in_spot(telling, point, spot(more, point)[0]))

    def test_by_hand(self):
        self.assertEqual(spot(ONE, HALF), (Twin(Ratio(2, 5)), Ratio(4, 25)))
        self.assertEqual(spot(telling=((0, (0,)),), point=Twin(0, THIRD)), (Twin(0), Ratio(1, 9)))
        for number, inside, rim in ((Ratio(4, 5), True, True), (0, True, True), (Ratio(2, 5), True, False), (1, False, False)):
            self.assert_answer(inside, is_in_spot(ONE, HALF, number))
            self.assert_answer(rim, is_on_rim(telling=ONE, point=HALF, number=number))
        self.assert_answer(False, is_in_spot(ONE, HALF, Ratio(-1, 10 ** 9)))
        self.assert_answer(True, is_in_spot(ONE, HALF, Twin(Ratio(2, 5), Ratio(2, 5))))

    def test_wrong(self):
        for telling in (ONE, NONE[0]):
            for value in ODD_VALUES + UNITS + NEAR_UNITS:
                self.assert_error(InvalidPoint, spot, telling, value, value=value)
                for call in (is_in_spot, is_on_rim, on_rim_box):
                    self.assert_error(InvalidPoint, call, telling, value, None, value=value)
            for value in ODD_VALUES:
                for call in (is_in_spot, is_on_rim, on_rim_box):
                    self.assert_error(InvalidNumber, call, telling, HALF, value, value=value)
                    self.assert_error(InvalidNumber, call, telling, 0, value, value=value)

    def test_not_doable(self):
        for telling in NONE:
            for point in (0, THIRD):
                self.assert_error(NotDoable, spot, telling, point)
                self.assert_error(NotDoable, is_in_spot, telling, point, 0)
                self.assert_error(NotDoable, is_on_rim, telling, point, 5)
            self.assert_error(NotDoable, on_rim_box, telling, THIRD, 0)


class NextSpots(Looks, unittest.TestCase):
    def test_a_number_is_in_it_if_it_may_be_told_behind(self):
        chance = Chance(157)
        for telling in samples(158):
            for at, (point, told) in enumerate(telling):
                if sum([len(row) for _, row in telling]) == 6:
                    continue
                middle, square = next_spot(telling, point)
                self.assertEqual((middle.__class__, square.__class__), (Twin, Ratio))
                for number in [middle] + [middle + Twin(1) * chance.small() * THIRD for _ in range(4)]:
                    behind = telling[:at] + [(point, told + [number])] + telling[at + 1:]
                    inside = (number - middle).size().is_at_most(square)
                    self.assertEqual(is_doable(behind), inside)

    def test_next_answers_of_members(self):
        # A free number of size 1 leads to the rim, one below it within.
        for telling in samples(159):
            for point, told in telling:
                if len(told) < 4:
                    middle, square = next_spot(telling, point)
                    for free, wanted in ((Box([1], [1]), True), (Box([Twin(0, -1)], [1]), True), (Box([HALF], [1]), False)):
                        number = member(telling, free).around(point, len(told) + 1)[len(told)]
                        self.assertEqual((number - middle).size() == square, wanted)
                        self.assertTrue((number - middle).size().is_at_most(square))

    def test_one_answer_at_0(self):
        for number in (0, HALF, Twin(0, THIRD), Twin(HALF, HALF)):
            width = 1 - (Twin(1) * number).size()
            self.assertEqual(next_spot([(0, [number])], 0), (Twin(0), width * width))

    def test_by_hand(self):
        self.assertEqual(next_spot([(0, [HALF, 0])], 0), (Twin(0), Ratio(9, 16)))
        self.assertEqual(next_spot([(0, [HALF, Ratio(3, 8)])], 0), (Twin(Ratio(-3, 32)), Ratio(81, 256)))
        self.assertEqual(next_spot(telling=[(0, [0, 0, 0])], point=Twin(0)), (Twin(0), Ratio(1)))
        self.assertEqual(next_spot([(HALF, [0])], HALF), (Twin(0), Ratio(16, 9)))

    def test_only_boxes(self):
        for telling in ONLY:
            box = only_box(telling)
            for point, told in telling:
                found = next_spot(telling, point)
                self.assertEqual(found, (box.around(point, len(told) + 1)[-1], Ratio(0)))
        self.assertEqual(next_spot([(0, [HALF, Ratio(3, 4)])], 0), (Twin(Ratio(-3, 8)), Ratio(0)))

    def test_wrong(self):
        for telling in (ONE, NONE[0]):
            for value in ODD_VALUES + UNITS + NEAR_UNITS + (HALF, Twin(HALF), Ratio(1, 10 ** 9)):
                self.assert_error(InvalidPoint, next_spot, telling, value, value=value)
        for telling in ([(0, [0] * 4)], [(HALF, [0]), (0, [1, 2, 3, 4])], [(0, [2, 0, 0, 0])]):
            self.assert_error(InvalidPoint, next_spot, telling, 0, value=0)

    def test_not_doable(self):
        for telling in NONE:
            self.assert_error(NotDoable, next_spot, telling, 0)


class Rims(Looks, unittest.TestCase):
    def test_on_rim_box(self):
        rows = [[1] + [0] * 15, Chance(160).values(12)]
        for telling in samples(161):
            for point in untold(telling)[:3]:
                for unit in RIM[:4]:
                    wanted = member(telling, Box([unit], [1]))
                    number = wanted.worth(point)
                    self.assert_answer(True, is_on_rim(telling, point, number))
                    found = on_rim_box(telling, point, number)
                    self.assertEqual(found, wanted)
                    self.assert_answer(True, does(found, telling))
                    self.assertTrue(all([is_softer(found, row) for row in rows]))
                    if sum([len(told) for _, told in telling]) < 6:
                        beside = telling + [(point, [number])]
                        self.assertEqual(kind(beside), "one")
                        self.assertEqual(only_box(beside), found)

    def test_only_boxes(self):
        for telling in ONLY:
            box = only_box(telling)
            for point in untold(telling)[:3]:
                self.assertEqual(on_rim_box(telling, point, box.worth(point)), box)
                self.assert_error(NotOnRim, on_rim_box, telling, point, box.worth(point) + Ratio(1, 10 ** 9))

    def test_by_hand(self):
        self.assertEqual(on_rim_box(ONE, HALF, 0), Box([1, -2], [2, -1]))
        self.assertEqual(on_rim_box(telling=ONE, point=HALF, number=Ratio(4, 5)), Box([1, 2], [2, 1]))

    def test_not_on_rim(self):
        for number in (Ratio(2, 5), Ratio(1, 10 ** 9), Ratio(-1, 10 ** 9), Twin(0, Ratio(1, 10 ** 9)), 1, 10 ** 12):
            self.assert_error(NotOnRim, on_rim_box, ONE, HALF, number)

    def test_told_points(self):
        for telling in [ONE] + list(NONE[:1]) + list(ONLY[:1]):
            for value in (0, Ratio(0), Twin(0)):
                self.assert_error(InvalidPoint, on_rim_box, telling, value, HALF, value=value)
                self.assert_error(InvalidNumber, on_rim_box, telling, value, None, value=None)


class Together(Looks, unittest.TestCase):
    def assert_goes(self, telling, first, second):
        """Just if the telling with both told beside is doable, its made table looked at without limits."""
        pairs = telling + [(first[0], [first[1]]), (second[0], [second[1]])]
        if sum([len(told) for _, told in pairs]) <= 6:
            wanted = is_doable(pairs)
            self.assert_answer(wanted, goes_with(telling, *first, *second))
            self.assert_answer(wanted, goes_with(telling, *second, *first))
            return wanted
        return None

    def test_as_told_beside(self):
        chance = Chance(162)
        seen = []
        for telling in samples(163):
            first, second = untold(telling)[:2]
            middle, other_middle = spot(telling, first)[0], spot(telling, second)[0]
            low = width_of(telling, first)[0]
            other_low = width_of(telling, second)[0]
            for _ in range(6):
                number = middle + Twin(low) * chance.small()
                other = other_middle + Twin(other_low) * chance.small()
                seen.append(self.assert_goes(telling, (first, number), (second, other)))
            self.assert_goes(telling, (first, middle), (second, other_middle))
            self.assert_goes(telling, (first, middle + 1), (second, other_middle))
            self.assert_goes(telling, (first, middle), (second, other_middle + Twin(0, 1)))
        # Each may be in its spot without their going together.
        self.assertIn(True, seen)
        self.assertIn(False, seen)

    def test_worths_of_members(self):
        for telling in samples(164):
            first, second = untold(telling)[:2]
            for free in (Box([], [1]), Box([0, 1], [1]), Box([1], [1]), Box([1, 2], [2, 1])):
                box = member(telling, free)
                self.assert_answer(True, goes_with(telling, first, box.worth(first), second, box.worth(second)))
                loud = box.worth(second) + 2
                self.assert_answer(False, goes_with(telling, first, box.worth(first), second, loud))

    def test_only_boxes(self):
        for telling in ONLY:
            box = only_box(telling)
            first, second = untold(telling)[:2]
            number, other = box.worth(first), box.worth(second)
            self.assert_answer(True, goes_with(telling, first, number, second, other))
            little = Ratio(1, 10 ** 9)
            self.assert_answer(False, goes_with(telling, first, number + little, second, other))
            self.assert_answer(False, goes_with(telling, first, number, second, other - little))
            self.assert_answer(False, goes_with(telling, first, number * 2 + 3, second, other * 2 + 3))

    def test_by_hand(self):
        zero = [(0, [0])]
        # The free box is f by x: 2 f there, 3 f there, their distance at most that of 1/2 and 1/3.
        self.assert_answer(True, goes_with(zero, HALF, HALF, THIRD, THIRD))
        self.assert_answer(False, goes_with(zero, HALF, HALF, THIRD, 0))
        self.assert_answer(True, goes_with(zero, HALF, QUARTER, THIRD, Ratio(1, 6)))
        self.assert_answer(False, goes_with(zero, HALF, QUARTER, THIRD, -THIRD))
        self.assert_answer(True, goes_with(
            telling=zero, point=HALF, number=0, other_point=Ratio(-1, 2), other_number=QUARTER,
        ))
        # a is c v at 1/2: no box has the worth 2 there.
        self.assert_answer(False, goes_with(ONE, HALF, 2, THIRD, HALF))
        self.assert_answer(False, goes_with(ONE, THIRD, HALF, HALF, 2))

    def test_six_answers(self):
        telling = [(POINTS[k], [0]) for k in range(6)]
        first, second = POINTS[6:8]
        self.assert_answer(True, goes_with(telling, first, 0, second, 0))
        self.assert_answer(False, goes_with(telling, first, HALF, second, 0))
        middle, square = spot(telling, first)
        self.assertEqual(middle, Twin(0))
        self.assertTrue(is_never_below(made_table(telling[:4] + [(first, [0]), (second, [0])])))
        self.assertTrue(square.is_below(1))

    def test_wrong(self):
        for telling in (ONE, NONE[0]):
            for value in ODD_VALUES + UNITS + NEAR_UNITS:
                self.assert_error(InvalidPoint, goes_with, telling, value, None, None, None, value=value)
                self.assert_error(InvalidPoint, goes_with, telling, 0, 0, value, None, value=value)
            for value in ODD_VALUES:
                self.assert_error(InvalidNumber, goes_with, telling, 0, value, None, None, value=value)
                self.assert_error(InvalidNumber, goes_with, telling, 0, 0, 0, value, value=value)

    def test_points_that_do_not_do(self):
        for telling in (ONE, NONE[0], ONLY[0]):
            zero = Ratio(0)
            self.assert_error(InvalidPoint, goes_with, telling, 0, 0, zero, 0, value=0)
            self.assert_error(InvalidPoint, goes_with, telling, HALF, 0, zero, 0, value=zero)
            self.assert_error(InvalidPoint, goes_with, telling, zero, 0, HALF, 0, value=zero)
            twice = Twin(HALF)
            self.assert_error(InvalidPoint, goes_with, telling, HALF, 0, twice, 0, value=twice)
            self.assert_error(InvalidPoint, goes_with, telling, HALF, 0, HALF, 1, value=HALF)

    def test_not_doable(self):
        for telling in NONE:
            self.assert_error(NotDoable, goes_with, telling, THIRD, 0, QUARTER, 0)


if __name__ == "__main__":
    unittest.main()
