"""Members of families and only boxes (points 52 and 53)."""

import unittest

from neverlouder.boxes import Box
from neverlouder.built import box_of, steps_of
from neverlouder.curves import plus, scaled, times, turned
from neverlouder.errors import InvalidBox, NoChoice, NoMember, NotDone, TooMany
from neverlouder.family import family
from neverlouder.made import does, kind, made_table
from neverlouder.members import free_of, member, only_box
from neverlouder.played import is_softer
from neverlouder.ranks import rank
from neverlouder.ratios import Ratio
from neverlouder.twins import Twin
from tests.helper import HALF, ODD_VALUES, POINTS, UNITS, Chance, Looks

THIRD = Ratio(1, 3)
ONE = [(0, [HALF])]
AT_HALF = [(HALF, [HALF])]
NO_CHOICE = ([(0, [1])], [(0, [2])], [(0, [0]), (HALF, [HALF])], [(0, [0]), (HALF, [Ratio(3, 4)])])
FREE = (
    Box([], [1]), Box([1], [1]), Box([Twin(0, -1)], [1]), Box([HALF], [1]), Box([0, 1], [1]), Box([1, 2], [2, 1]),
    Box([1, 0, 1], [3, Twin(0, 1)]),
)


def samples(seed, most):
    """Tellings that boxes of a few steps do, with many boxes."""
    chance = Chance(seed)
    found = []
    for shape in ([1], [2], [1, 1], [3], [2, 1], [1, 1, 1], [4], [2, 2], [3, 3], [1, 2, 3], [4, 2])[:most]:
        box = box_of((chance.steps(2)[0], HALF))
        points = chance.points(len(shape))
        found.append([(point, box.around(point, many)) for point, many in zip(points, shape)])
    return found


class Members(Looks, unittest.TestCase):
    def test_members(self):
        rows = [[1] + [0] * 15, Chance(141).values(12)]
        for telling in samples(142, 11):
            self.assertEqual(kind(telling), "many")
            found = [member(telling, free) for free in FREE]
            for free, box in zip(FREE, found):
                self.assertIs(box.__class__, Box)
                self.assert_answer(True, does(box, telling))
                self.assertTrue(all([is_softer(box, row) for row in rows]))
                self.assertEqual(free_of(telling, box), free)
            # Unlike free boxes make unlike members.
            for at, box in enumerate(found):
                self.assertNotIn(box, found[:at])

    def test_by_words(self):
        chance = Chance(143)
        for telling in samples(144, 6):
            a, b, c, d = family(telling)
            for _ in range(3):
                top, base = chance.curve(3), [1] + chance.curve(2)
                upper = plus(times(a, top), times(b, base))
                lower = plus(times(c, top), times(d, base))
                if lower and not lower[0].is_nought:
                    self.assertEqual(member(telling, Box(top, base)), Box(upper, lower))
                    self.assertEqual(free_of(telling, Box(upper, lower)), Box(top, base))

    def test_by_hand(self):
        self.assertEqual(member(ONE, Box([1], [1])), Box([1, 2], [2, 1]))
        self.assertEqual(member(telling=((0, (HALF,)),), free=Box([], [1])), Box([HALF], [1]))
        self.assertEqual(free_of(telling=ONE, box=Box([HALF], [1])), Box([], [1]))
        self.assertEqual(free_of(ONE, Box([1, 2], [2, 1])), Box([1], [1]))

    def test_louder_free_boxes(self):
        found = member(ONE, Box([3], [1]))
        self.assertEqual(found, Box([HALF, 3], [1, Ratio(3, 2)]))
        self.assertEqual(free_of(ONE, found), Box([3], [1]))

    def test_no_member(self):
        # 1 + w' b g is 0 at 0 where w is 1/2, b is -1/2 there, g is 4; b is 0 at 0 for the point 0.
        for free in (Box([4], [1]), Box([4, 1], [1]), Box([4], [1, HALF]), Box([4, 0, 1], [1, 5])):
            self.assert_error(NoMember, member, AT_HALF, free)
        # c g + d is nought.
        self.assert_error(NoMember, member, [(HALF, [HALF])], Box([4, -2], [1, -2]))
        self.assertEqual(member(ONE, Box([4], [1])).worth(0), Twin(HALF))

    def test_no_free_box(self):
        # (d f - b) by (a - c f) with the root 0 below: f is 2 at 0 there.
        box = Box([2, -3], [1])
        self.assert_answer(True, does(box, AT_HALF))
        self.assert_error(NoMember, free_of, AT_HALF, box)
        self.assertEqual(free_of(AT_HALF, Box([1, -1], [1])).worth(HALF).__class__, Twin)

    def test_not_done(self):
        for telling in samples(145, 7):
            for box in (Box([0, 5], [1]), Box([1], [1])):
                self.assertFalse(does(box, telling))
                self.assert_error(NotDone, free_of, telling, box)
        self.assert_error(NotDone, free_of, AT_HALF, Box([1], [1, -2]))

    def test_too_many(self):
        great = Box([0] * 40 + [1], [1])
        self.assert_error(TooMany, member, ONE, great, what="degree", limit=40)
        self.assert_error(TooMany, member, [(0, [0, 0, 0]), (HALF, [0])], Box([0] * 37 + [1], [1]), what="degree", limit=40)
        below = Box([1], [1] + [0] * 39 + [HALF])
        self.assert_error(TooMany, member, [(HALF, [0])], below, what="degree", limit=40)
        found = member(ONE, Box([0] * 39 + [1], [1]))
        self.assertEqual(found.degree, 40)
        self.assertEqual(free_of(ONE, found), Box([0] * 39 + [1], [1]))
        # The way back never makes the degree greater.
        loud = Box([Twin(1)] + [0] * 38 + [1, -2], [2])
        self.assert_answer(True, does(loud, [(0, [HALF]), (HALF, [HALF])]))
        self.assertEqual(free_of(ONE, loud).degree, 40)

    def test_errors_in_sequence(self):
        great = Box([4] + [0] * 39 + [1], [1])
        for value in ODD_VALUES:
            for telling in (ONE,) + NO_CHOICE:
                self.assert_error(InvalidBox, member, telling, value, value=value)
                self.assert_error(InvalidBox, free_of, telling, value, value=value)
        for telling in NO_CHOICE:
            self.assert_error(NoChoice, member, telling, great)
            self.assert_error(NoChoice, free_of, telling, Box([5], [1]))
        # NoMember stands ahead of TooMany.
        self.assert_error(NoMember, member, AT_HALF, great)


class OnlyBoxes(Looks, unittest.TestCase):
    def test_only_box(self):
        chance = Chance(146)
        for many in range(4):
            for unit in UNITS:
                box = box_of((chance.steps(many)[0], unit))
                for shape in ([4], [1, 1, 1, 1], [2, 2], [3, 2], [1, 2, 3]):
                    points = chance.points(len(shape))
                    telling = [(point, box.around(point, answers)) for point, answers in zip(points, shape)]
                    found = only_box(telling)
                    self.assertEqual(found, box)
                    self.assertEqual(found, box_of(steps_of(telling)))
                    self.assertEqual(found.degree, rank(made_table(telling)))

    def test_it_keeps_all_force(self):
        # Top is base turned over the degree, times a number of size 1.
        for telling in ([(0, [0]), (HALF, [HALF])], [(0, [HALF, Twin(0, Ratio(3, 4))])], [(HALF, [Twin(0, 1)])]):
            box = only_box(telling)
            top, base = box.curves()
            over = turned(base, box.degree)
            number = top[-1].over(over[-1])
            self.assertEqual(number.size(), Ratio(1))
            self.assertEqual(scaled(over, number), top)

    def test_by_hand(self):
        self.assertEqual(only_box([(0, [1])]), Box([1], [1]))
        self.assertEqual(only_box(telling=[(0, [HALF]), (HALF, [Ratio(4, 5)])]), Box([1, 2], [2, 1]))
        self.assertEqual(only_box([(0, [0]), (HALF, [HALF]), (THIRD, [THIRD])]), Box([0, 1], [1]))

    def test_another_kind(self):
        for telling in (ONE, [(0, [2])], [(0, [0]), (HALF, [Ratio(3, 4)])], [(point, [0]) for point in POINTS[:6]]):
            self.assertIsNone(only_box(telling))


if __name__ == "__main__":
    unittest.main()
