"""Judged boxes: never louder, loud points, touches (points 81 to 85)."""

import cmath
import unittest

from neverlouder.boxes import Box
from neverlouder.built import box_of
from neverlouder.errors import InvalidBox, InvalidCurve, TooMany
from neverlouder.judged import is_loud_point, is_never_louder, is_steady, is_strictly_softer, loud_point, touches
from neverlouder.made import is_doable, telling_of
from neverlouder.played import is_softer
from neverlouder.ratios import Ratio
from neverlouder.twins import Twin
from tests.helper import HALF, NEAR_UNITS, ODD_VALUES, POINTS, UNITS, Chance, Looks, convolved, exact, exacts, trim, twins, worth

LITTLE = Ratio(1, 10 ** 9)
U = Twin(Ratio(3, 5), Ratio(4, 5))


def with_roots(roots, by=1):
    """A told curve with these roots."""
    found = [exact(by)]
    for one in roots:
        found = convolved(found, [exact(-1) * exact(one), exact(1)])
    return twins(found)


def scaled(box, by):
    top, base = box.curves()
    return Box([one * by for one in top], base)


def joined(box, other):
    """The box that answers with the one what the other one answers."""
    (top, base), (high, low) = box.curves(), other.curves()
    return Box(twins(trim(convolved(exacts(top), exacts(high)))), twins(convolved(exacts(base), exacts(low))))


def number(value):
    return complex(value.plain.top / value.plain.bottom, value.side.top / value.side.bottom)


def worth_near(entries, x):
    found = 0
    for one in reversed(entries):
        found = found * x + number(one)
    return found


def turns_of(entries, many=4000):
    """How often a curve's worth goes round 0 along the rim: the number of its roots within."""
    steps = [worth_near(entries, cmath.exp(2j * cmath.pi * k / many)) for k in range(many + 1)]
    return round(sum([cmath.phase(two / one) for one, two in zip(steps, steps[1:])]) / (2 * cmath.pi))


def loudest(box, many=4000):
    """About how many times as loud it is on the rim, at most."""
    top, base = box.curves()
    places = [cmath.exp(2j * cmath.pi * k / many) for k in range(many)]
    return max([abs(worth_near(top, x)) / max(abs(worth_near(base, x)), 1e-12) for x in places])


class Steady(Looks, unittest.TestCase):
    def test_known_roots(self):
        outside = (2, Twin(0, -3), Ratio(1000001, 1000000), Twin(Ratio(3, 5), Ratio(81, 100)), Twin(-1, 1))
        inside = (0, HALF, Twin(0, Ratio(-999999, 1000000)), Twin(Ratio(3, 5), Ratio(79, 100)), Ratio(-1, 3))
        chance = Chance(341)
        for _ in range(40):
            roots = [chance.pick(outside) for _ in range(chance.below(5))]
            by = chance.pick((1, -3, Twin(HALF, 2)))
            self.assert_answer(True, is_steady(with_roots(roots, by)))
            for other in inside + UNITS:
                self.assert_answer(False, is_steady(with_roots(roots + [other], by)))
                self.assert_answer(False, is_steady(with_roots([other] + roots + [chance.pick(inside)], by)))

    def test_pairs_of_roots_that_mirror_each_other(self):
        # Then first and last may be alike in size.
        for roots in ([2, HALF], [Twin(0, 3), Twin(0, Ratio(1, 3))], [HALF, HALF, 2, 2], [1, 2], [1, -1]):
            self.assert_answer(False, is_steady(with_roots(roots)))

    def test_small_ones(self):
        for curve, wanted in (
            ([], False), ([0], False), ([0, 0], False), ([5], True), ([Twin(0, 1), 0], True), ([2, 1], True),
            ([1, 1], False), ([1, -1], False), ([1, 2], False), ([0, 1], False), ((3, 1, 1), True), ([1, 0, 0], True),
            ([1, 0, 1], False), ([Ratio(1000001, 1000000), 1], True), ([0, 0, 1], False), ([2] + [0] * 7 + [1], True),
        ):
            self.assert_answer(wanted, is_steady(curve))
        self.assert_answer(True, is_steady(curve=[9] + [1] * 8))
        self.assert_answer(False, is_steady([8] + [-1] * 8))

    def test_as_counted_along_the_rim(self):
        chance = Chance(342)
        for _ in range(60):
            curve = twins(exacts([chance.pick((1, 2, 4))] + chance.values(1 + chance.below(8))))
            if min([abs(worth_near(curve, cmath.exp(2j * cmath.pi * k / 400))) for k in range(400)]) > 0.1:
                self.assert_answer(turns_of(curve) == 0, is_steady(curve))

    def test_wrong(self):
        for value in ODD_VALUES + ([1] * 42,):
            self.assert_error(InvalidCurve, is_steady, value, value=value)
        for curve in ([3] + [0] * 8 + [1], [1] * 41, [0] * 40 + [1]):
            self.assert_error(TooMany, is_steady, curve, what="degree", limit=8)
        self.assert_answer(True, is_steady([3] + [0] * 40))


class NeverLouder(Looks, unittest.TestCase):
    def assert_never(self, box):
        self.assert_answer(True, is_never_louder(box))
        self.assertIsNone(loud_point(box))
        for row in ([1] + [0] * 10, [1, Twin(0, 1), -1, HALF, 2, 0, 0, 0]):
            self.assert_answer(True, is_softer(box, row))
        for point in POINTS:
            self.assert_answer(False, is_loud_point(box, point))

    def assert_loud(self, box):
        self.assert_answer(False, is_never_louder(box))
        self.assert_answer(False, is_strictly_softer(box))
        found = loud_point(box)
        self.assertIs(found.__class__, Twin)
        self.assert_answer(True, is_loud_point(box, found))
        self.assertTrue(found.size().is_below(1))
        top, base = [exacts(curve) for curve in box.curves()]
        self.assertGreater(worth(top, exact(found)).size(), worth(base, exact(found)).size())
        for one in (found.plain, found.side):
            self.assertLess(max(abs(one.top), one.bottom), 10 ** 3000)
        self.assertEqual(loud_point(box), found)
        return found

    def test_boxes_of_steps(self):
        chance = Chance(343)
        for many in (0, 1, 2, 3, 5, 8):
            for last in (0, HALF) + UNITS:
                box = box_of((chance.steps(many)[0], last))
                self.assert_never(box)
                if last in UNITS:
                    # What keeps all force is louder at once if it is made louder.
                    self.assert_loud(scaled(box, 1 + LITTLE))
                    self.assert_never(scaled(box, 1 - LITTLE))
                    self.assert_answer(True, is_strictly_softer(scaled(box, 1 - LITTLE)))

    def test_roots_of_the_base(self):
        little = Ratio(1, 10 ** 6)
        for root in (HALF, Twin(0, Ratio(-2, 3)), 1, -1, U, 1 - little, Twin(0, 1 - little), U * (1 - little), U * LITTLE):
            for top in ([1], [little], [little, 2 * little]):
                self.assert_loud(Box(top, with_roots([root])))
                self.assert_loud(Box(top, with_roots([root, root])))
                self.assert_loud(Box(top, with_roots([root, 3, Twin(0, 2)])))
                self.assert_loud(Box(top, with_roots([3, root, HALF, Twin(-2, 1)])))

    def test_roots_near_to_roots_of_the_top(self):
        for gap in (HALF, Ratio(1, 1000), Ratio(1, 10 ** 6), LITTLE):
            # Only very near to the root within is this one louder.
            box = Box([one * Ratio(1, 1000) for one in with_roots([HALF - gap])], with_roots([HALF]))
            self.assert_loud(box)
            self.assert_loud(joined(box, Box([1], [5, 1, Twin(0, 2)])))

    def test_roots_in_all_parts_of_the_disc(self):
        little = Ratio(1, 10 ** 6)
        parts = (Ratio(1, 7), Ratio(-1, 7), Ratio(5, 7), Ratio(-5, 7))
        for plain in parts:
            for side in parts:
                root = Twin(plain, side) * (Ratio(9, 10) if abs(plain.top * side.top) == 25 else 1)
                if root.size().is_below(1):
                    self.assert_loud(Box([little], with_roots([root])))
                    self.assert_loud(Box([0, little], with_roots([root, 2])))

    def test_roots_without_the_disc_lead_nowhere(self):
        little = Ratio(1, 10 ** 6)
        for other in (Twin(Ratio(3, 4), Ratio(3, 4)), U * (1 + little), Twin(0, 1 + little), Twin(-1, -1), 1 + little):
            for root in (Ratio(-1, 2), Twin(Ratio(-1, 3), Ratio(1, 3)), Twin(0, Ratio(-1, 7)), Ratio(2, 3)):
                self.assert_loud(Box([little * little], with_roots([other, root])))

    def test_not_beyond_the_rim(self):
        # Beyond the rim it is loud in many places, within it near 1/2 alone.
        top = [0] * 7 + [Ratio(9, 10), Ratio(-9, 20)]
        self.assert_loud(Box(top, [-HALF, 1]))

    def test_louder_by_very_little_at_one_place(self):
        for unit in UNITS + (Twin(Ratio(-3, 5), Ratio(4, 5)), Twin(Ratio(-99, 101), Ratio(20, 101))):
            place = Twin(1) * unit
            # (1 + u' x) by 2 comes to size 1 at u alone.
            touching = Box([1, place.mirror()], [2])
            self.assert_never(touching)
            self.assertEqual(touches(touching), 1)
            self.assert_answer(False, is_strictly_softer(touching))
            for by in (LITTLE, Ratio(1, 10 ** 5)):
                self.assert_loud(scaled(touching, 1 + by))
                softer = scaled(touching, 1 - by)
                self.assert_never(softer)
                self.assert_answer(True, is_strictly_softer(softer))
                self.assertEqual(touches(softer), 0)
            twice = joined(touching, touching)
            self.assert_never(twice)
            self.assert_loud(scaled(twice, 1 + LITTLE))

    def test_two_places(self):
        box = Box([1, 0, 1], [2])
        self.assert_never(box)
        self.assertEqual(touches(box), 2)
        self.assert_loud(Box([1, LITTLE, 1], [2]))
        self.assert_loud(Box([1, -LITTLE, 1], [2]))
        self.assert_never(Box([1, Twin(0, LITTLE), 1], [Ratio(2) + LITTLE]))

    def test_any_boxes(self):
        chance = Chance(344)
        seen = []
        for _ in range(60):
            box = Box(chance.curve(chance.below(7)), [chance.pick((3, 9, 1))] + chance.curve(chance.below(6)))
            base = box.curves()[1]
            most = loudest(box)
            near = min([abs(worth_near(base, cmath.exp(2j * cmath.pi * k / 400))) for k in range(400)])
            if abs(most - 1) > 0.05 and near > 0.1:
                seen.append(most < 1 and turns_of(base) == 0)
                (self.assert_never if seen[-1] else self.assert_loud)(box)
        self.assertGreater(min(seen.count(True), seen.count(False)), 5)

    def test_what_never_louder_boxes_do_is_doable(self):
        chance = Chance(345)
        for _ in range(20):
            box = Box(chance.curve(3), [chance.pick((4, 7, Twin(3, 6)))] + chance.curve(2))
            if is_never_louder(box):
                for points, many in ((POINTS[:6], 1), (POINTS[2:5], 2), (POINTS[4:5], 4)):
                    self.assert_answer(True, is_doable(telling_of(box, points, many)))

    def test_constants(self):
        for value in (0, HALF) + UNITS:
            self.assert_never(Box([value], [1]))
        for value in NEAR_UNITS:
            self.assertEqual(self.assert_loud(Box([value], [1])).__class__, Twin)
        self.assert_loud(Box([0, 1 + LITTLE], [1]))
        self.assert_never(Box([0] * 8 + [1], [1]))
        self.assert_loud(Box([0] * 8 + [1 + LITTLE], [1]))

    def test_wrong(self):
        wide = (Box([0] * 9 + [1], [3]), Box([1], [9] + [0] * 8 + [1]), Box([5] * 40, [2]))
        for call in (is_never_louder, loud_point, is_strictly_softer, touches):
            for value in ODD_VALUES:
                self.assert_error(InvalidBox, call, value, value=value)
            for box in wide:
                self.assert_error(TooMany, call, box, what="degree", limit=8)


class LoudPoints(Looks, unittest.TestCase):
    def test_by_words(self):
        chance = Chance(346)
        for _ in range(40):
            box = Box(chance.curve(4), [1] + chance.curve(3))
            top, base = [exacts(curve) for curve in box.curves()]
            for point in POINTS:
                wanted = worth(top, exact(point)).size() > worth(base, exact(point)).size()
                self.assert_answer(wanted, is_loud_point(box, point))

    def test_just_alike(self):
        # Of the worth 2 x by 1 the size is 1 at 1/2, and just beyond it is louder.
        box = Box([0, 2], [1])
        for point, wanted in ((HALF, False), (HALF + LITTLE, True), (Twin(0, HALF), False), (1 - LITTLE, True)):
            self.assert_answer(wanted, is_loud_point(box=box, value=point))

    def test_any_value(self):
        box = Box([3], [1, -1])
        for value in ODD_VALUES + UNITS + NEAR_UNITS + ([0], (0,)):
            self.assert_answer(False, is_loud_point(box, value))
        self.assert_answer(True, is_loud_point(box, 0))
        for value in ODD_VALUES:
            self.assert_error(InvalidBox, is_loud_point, value, None, value=value)

    def test_any_degree(self):
        self.assert_answer(True, is_loud_point(Box([0] * 40 + [10 ** 11], [1]), Ratio(9, 10)))
        self.assert_answer(False, is_loud_point(Box([0] * 40 + [10 ** 11], [1]), HALF))


class Touches(Looks, unittest.TestCase):
    def test_places(self):
        for places in ([1], [-1], [U], [1, -1], [U, Twin(0, -1)], [1, U, -1], [-1, Twin(Ratio(-4, 5), Ratio(3, 5)), 1, U]):
            box = Box([1], [1])
            for place in places:
                box = joined(box, Box([1, (Twin(1) * place).mirror()], [2]))
            # Each one alone comes to 1 at its place, all of them together never.
            self.assertEqual(touches(box), 1 if len(places) == 1 else 0)
            self.assert_answer(len(places) > 1, is_strictly_softer(box))

    def test_many_places(self):
        for many in range(1, 9):
            box = Box([1] + [0] * (many - 1) + [1], [2])
            self.assertEqual(touches(box), many)
            self.assert_answer(False, is_strictly_softer(box))
            self.assert_answer(True, is_never_louder(box))
            # At -1 alone, too, it is one for odd many; with - instead for even many.
            other = Box([1] + [0] * (many - 1) + [-1], [2])
            self.assertEqual(touches(other), many)

    def test_places_that_are_no_fractions(self):
        # 1 + x x x is 2 in size at 1 and at two numbers whose side is the half of the root of 3.
        self.assertEqual(touches(Box([1, 0, 0, 1], [2])), 3)
        # Louder in between: the size of 1 + x is 1 at two such places.
        self.assertEqual(touches(box=Box([1, 1], [1])), 2)
        self.assert_answer(False, is_strictly_softer(Box([1, 1], [1])))

    def test_places_where_it_begins_to_be_louder(self):
        # The size of 1 + i x is 2 less twice the side of x: as much as that of 1 + i at 1 and at -1.
        box = Box([1, Twin(0, 1)], [Twin(1, 1)])
        self.assertEqual(touches(box), 2)
        self.assert_answer(False, is_never_louder(box))
        # Turned by a quarter the places are i and -i.
        self.assertEqual(touches(Box([1, 1], [Twin(1, 1)])), 2)

    def test_all_of_the_rim(self):
        for box in (Box([1], [1]), Box([U], [1]), Box([0, 1], [1]), Box([1, 2], [2, 1]), Box([1, HALF], [HALF, 1])):
            self.assertIsNone(touches(box))
            self.assert_answer(False, is_strictly_softer(box))
        # The last one keeps the rim, but its base is not steady.
        self.assert_answer(False, is_never_louder(Box([1, HALF], [HALF, 1])))
        self.assert_answer(True, is_loud_point(Box([1, HALF], [HALF, 1]), loud_point(Box([1, HALF], [HALF, 1]))))

    def test_none(self):
        for box in (Box([], [1]), Box([HALF], [1]), Box([0, 1], [2]), Box([1, 1], [3])):
            self.assertEqual(touches(box), 0)
            self.assert_answer(True, is_strictly_softer(box))
        for box in (Box([2], [1]), Box([5], [2, 1])):
            self.assertEqual(touches(box), 0)
            self.assert_answer(False, is_strictly_softer(box=box))

    def test_strictly_softer_ones_may_be_made_a_little_louder(self):
        for box in (Box([1, 1], [3]), Box([Ratio(9, 10), 0, Twin(0, Ratio(1, 20))], [1])):
            self.assert_answer(True, is_strictly_softer(box))
            self.assert_answer(True, is_never_louder(scaled(box, 1 + LITTLE)))


if __name__ == "__main__":
    unittest.main()
