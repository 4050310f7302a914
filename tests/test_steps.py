"""Steps of tellings and of boxes (points 41 to 44 and 46)."""

import unittest

from neverlouder.boxes import Box
from neverlouder.built import box_of
from neverlouder.curves import degree
from neverlouder.errors import InvalidBox, InvalidMany, InvalidNumber, InvalidPoint, NoStep, NoWorth
from neverlouder.made import does, kind, telling_of
from neverlouder.ratios import Ratio
from neverlouder.steps import parameters, sequence, step, step_back, step_box, stepped
from neverlouder.twins import Twin
from tests.helper import (
    NEAR_UNITS, ODD_VALUES, POINTS, UNITS, Chance, Exact, Looks, convolved, exact, exacts, worth,
)

HALF = Ratio(1, 2)
THIRD = Ratio(1, 3)


def in_twins(telling):
    return [(Twin(1) * point, [Twin(1) * one for one in told]) for point, told in telling]


def quotient(upper, lower, many):
    """The first so many numbers of a series, by Fractions."""
    found = []
    for n in range(many):
        left = upper[n] if n < len(upper) else Exact(0)
        for k in range(1, min(n, len(lower) - 1) + 1):
            left = left - lower[k] * found[n - k]
        found.append(left / lower[0])
    return found


def stepped_by_hand(telling):
    """The stepped telling, None if no answer is left, by the words of point 42."""
    z = exact(telling[0][0])
    w = exact(telling[0][1][0])
    found = []
    for point, told in telling:
        y = exact(point)
        f = exacts(told)
        upper = convolved([f[0] - w] + f[1:], [Exact(1) - z.mirror() * y, Exact(0) - z.mirror()])
        lower = [Exact(1) - w.mirror() * f[0]] + [Exact(0) - w.mirror() * one for one in f[1:]]
        if (y - z).size() == 0:
            left = quotient(upper[1:], lower, len(f) - 1)
        else:
            left = quotient(upper, convolved(lower, [y - z, Exact(1)]), len(f))
        if left:
            found.append((y.twin(), [one.twin() for one in left]))
    return found or None


class Sequences(Looks, unittest.TestCase):
    def test_sequence(self):
        found = sequence([(HALF, [1, 2, 3]), (0, [5]), (Twin(0, THIRD), (1, 1))])
        self.assert_twins(found)
        self.assertEqual(found, [Twin(HALF)] * 3 + [Twin(0)] + [Twin(0, THIRD)] * 2)
        self.assertEqual(sequence(telling=((0, (9,)),)), [Twin(0)])


class Steps(Looks, unittest.TestCase):
    def assert_step(self, telling):
        found = step(telling)
        self.assertIs(found.__class__, tuple)
        point, number, left = found
        self.assertEqual((point, number), (Twin(1) * telling[0][0], Twin(1) * telling[0][1][0]))
        self.assertEqual(left, stepped_by_hand(telling))
        self.assertEqual(left, stepped(telling, 1))
        if left is not None:
            self.assertIs(left.__class__, list)
            for told in left:
                self.assertIs(told.__class__, tuple)
                self.assert_twins(told[1])

    def test_by_words(self):
        chance = Chance(91)
        for shape in ([1], [4], [2, 1], [1, 2], [1, 1, 1], [3, 3], [1, 4], [2, 2, 2], [1] * 6):
            for _ in range(3):
                self.assert_step(chance.telling(shape))

    def test_answers_of_size_1(self):
        for unit in UNITS:
            self.assert_step([(0, [HALF]), (HALF, [unit, 3])])
            self.assert_step([(HALF, [Twin(0, THIRD), 5]), (0, [unit]), (THIRD, [0, 1])])
            # A second answer may be of any size.
            self.assert_step([(0, [HALF, unit * 7]), (HALF, [0, 100])])

    def test_by_hand(self):
        found = step([(0, [0, HALF]), (HALF, [Ratio(1, 4)])])
        self.assertEqual(found, (Twin(0), Twin(0), [(Twin(0), [Twin(HALF)]), (Twin(HALF), [Twin(HALF)])]))
        self.assertEqual(step([(HALF, [THIRD])]), (Twin(HALF), Twin(THIRD), None))
        self.assertEqual(step([(0, [HALF]), (HALF, [Ratio(4, 5)])])[2], [(Twin(HALF), [Twin(1)])])

    def test_the_first_point_goes(self):
        telling = [(0, [HALF]), (HALF, [THIRD, THIRD]), (THIRD, [0])]
        self.assertEqual([point for point, _ in step(telling)[2]], [Twin(HALF), Twin(THIRD)])
        telling = [(0, [HALF, 0]), (HALF, [THIRD])]
        self.assertEqual([len(told) for _, told in step(telling)[2]], [1, 1])

    def test_no_step(self):
        for loud in UNITS + NEAR_UNITS:
            for telling in ([(0, [loud])], [(0, [loud, 0])], [(HALF, [loud]), (0, [0])]):
                self.assert_no_step(telling)
        for loud in NEAR_UNITS:
            self.assert_no_step([(0, [HALF]), (HALF, [loud])])
            self.assert_no_step([(0, [HALF, 1]), (HALF, [1]), (THIRD, [loud, 0])])

    def assert_no_step(self, telling):
        self.assert_error(NoStep, step, telling)
        self.assert_error(NoStep, stepped, telling, 1)
        self.assertEqual(parameters(telling), [])
        self.assertEqual(stepped(telling, 0), in_twins(telling))

    def test_never_louder_boxes(self):
        # The stepped telling is that of the stepped box.
        chance = Chance(92)
        for shape in ([1, 1], [3], [2, 2], [1, 2, 1], [4, 1], [2, 1, 3]):
            box = box_of((chance.steps(3)[0], HALF))
            points = chance.points(len(shape))
            telling = [(point, box.around(point, many)) for point, many in zip(points, shape)]
            number, left = step_box(box, points[0])
            self.assertEqual(number, telling[0][1][0])
            self.assert_answer(True, does(left, stepped(telling, 1)))
            self.assertEqual(kind(stepped(telling, 1)), kind(telling))


class Parameters(Looks, unittest.TestCase):
    def test_parameters(self):
        chance = Chance(93)
        for _ in range(30):
            telling = chance.telling(chance.shape(6))
            found = parameters(telling)
            self.assert_twins(found)
            left = telling
            wanted = []
            while left is not None and len(wanted) < len(found):
                wanted.append(Twin(1) * left[0][1][0])
                left = step(left)[2]
            self.assertEqual(found, wanted)
            for many in range(len(found)):
                self.assertEqual(parameters(stepped(telling, many)), found[many:])
            if left is not None:
                self.assert_error(NoStep, step, left)

    def test_told_twice_and_more(self):
        chance = Chance(94)
        for many in range(1, 5):
            numbers = [chance.small() for _ in range(many)]
            for point in (0, HALF, Twin(0, THIRD)):
                box = box_of(([(point, one) for one in numbers], 0))
                found = parameters(telling_of(box, [point], many))
                self.assertEqual(found, [Twin(1) * one for one in numbers])

    def test_by_hand(self):
        self.assertEqual(parameters([(0, [HALF]), (HALF, [HALF])]), [Twin(HALF), Twin(0)])
        self.assertEqual(parameters([(0, [HALF, Ratio(3, 4)])]), [Twin(HALF)])
        self.assertEqual(parameters([(0, [1])]), [])
        # An answer of size 1 at another point is one too much behind a step.
        self.assertEqual(parameters([(0, [HALF]), (HALF, [1])]), [Twin(HALF)])
        self.assertEqual(parameters([(0, [HALF]), (HALF, [2])]), [])


class Stepped(Looks, unittest.TestCase):
    def test_stepped(self):
        telling = [(0, [0, HALF]), (HALF, [Ratio(1, 4)])]
        self.assertEqual(stepped(telling, 0), in_twins(telling))
        self.assertEqual(stepped(telling, 1), [(Twin(0), [Twin(HALF)]), (Twin(HALF), [Twin(HALF)])])
        self.assertEqual(stepped(telling, 2), [(Twin(HALF), [Twin(0)])])
        self.assertIsNone(stepped(telling=telling, many=3))
        for many in (4, 5, 100, 10 ** 12):
            self.assert_error(NoStep, stepped, telling, many)

    def test_no_step_on_the_way(self):
        telling = [(0, [HALF]), (HALF, [1])]
        self.assertEqual(len(stepped(telling, 1)), 1)
        for many in (2, 3, 61, 10 ** 12):
            self.assert_error(NoStep, stepped, telling, many)

    def test_wrong_counts(self):
        for value in ODD_VALUES + (-1, Ratio(1), Twin(1)):
            self.assert_error(InvalidMany, stepped, [(0, [2])], value, value=value)


def stepped_worth(box, point, at):
    """The worth at a number of the box that a box is stepped to, by the words of point 42."""
    top, base = [exacts(curve) for curve in box.curves()]
    z, x = exact(point), exact(at)
    w = worth(top, z) / worth(base, z)
    f = worth(top, x) / worth(base, x)
    return (f - w) / (Exact(1) - w.mirror() * f) * (Exact(1) - z.mirror() * x) / (x - z)


class Boxes(Looks, unittest.TestCase):
    def test_step_box(self):
        chance = Chance(95)
        for many in range(4):
            box = box_of((chance.steps(many)[0], Twin(THIRD, HALF)))
            for point in POINTS[:4]:
                found = step_box(box, point)
                self.assertIs(found.__class__, tuple)
                number, left = found
                self.assertEqual(number, box.worth(point))
                for at in POINTS[4:]:
                    self.assertEqual(left.worth(at), stepped_worth(box, point, at).twin())
                self.assertEqual(step_back(left, point, number), box)

    def test_each_is_the_contrary(self):
        chance = Chance(96)
        for _ in range(10):
            box = Box(chance.curve(3), [4] + chance.curve(2))
            for point in chance.points(2):
                number = chance.small()
                found = step_back(box, point=point, number=number)
                self.assertEqual(found.worth(point), Twin(1) * number)
                self.assertEqual(step_box(found, point), (Twin(1) * number, box))

    def test_step_back(self):
        self.assertEqual(step_back(Box([1], [1]), 0, HALF), Box([HALF, 1], [1, HALF]))
        self.assertEqual(step_back(Box([], [1]), THIRD, HALF), Box([HALF], [1]))
        self.assertEqual(step_back(Box([1], [1]), HALF, 0), Box([-1, 2], [2, -1]))
        self.assertEqual(step_box(Box([HALF], [1]), THIRD), (Twin(HALF), Box([], [1])))

    def test_great_degrees(self):
        for box in (Box([0] * 38 + [1], [1]), Box([1] + [0] * 37 + [HALF], [3] + [0] * 37 + [1])):
            number, left = step_box(box, THIRD)
            self.assertLessEqual(left.degree, 38)
            self.assertEqual(step_back(left, THIRD, number), box)
            found = step_back(box, HALF, Twin(0, THIRD))
            self.assertEqual(found.degree, 39)
            self.assertEqual(step_box(found, HALF), (Twin(0, THIRD), box))
        self.assertEqual(step_box(Box([0] * 38 + [1], [1]), 0), (Twin(0), Box([0] * 37 + [1], [1])))
        self.assertEqual(degree(step_back(Box([0] * 38 + [1], [1]), 0, 0).curves()[0]), 39)

    def test_no_worth(self):
        box = Box([1], [1, 0, 4])
        for point in (Twin(0, HALF), Twin(0, Ratio(-1, 2))):
            self.assert_error(NoWorth, step_box, box, point, point=point)

    def test_too_loud(self):
        for loud in UNITS + NEAR_UNITS:
            self.assert_error(NoStep, step_box, Box([loud], [1]), HALF)
        self.assert_error(NoStep, step_box, Box([0, 3], [1]), HALF)
        self.assert_error(NoStep, step_box, Box([0, 2], [1]), HALF)

    def test_no_worth_at_0_then(self):
        # The worth at 0 is 4 there, that at 1/2 is 1/4: 1 - f / 4 has the root 0.
        box = Box([4, Ratio(-15, 2)], [1])
        self.assertEqual(box.worth(HALF), Twin(Ratio(1, 4)))
        self.assert_error(NoStep, step_box, box, HALF)
        # Back with 1/2 at 1/2 the box 4 would be 1 - x by 0 at 0.
        self.assert_error(NoStep, step_back, Box([4], [1]), HALF, HALF)
        self.assert_error(NoStep, step_back, Box([8, 1], [1]), Ratio(1, 4), HALF)

    def test_wrong(self):
        for value in ODD_VALUES:
            self.assert_error(InvalidBox, step_box, value, None, value=value)
            self.assert_error(InvalidBox, step_back, value, None, None, value=value)
        for value in ODD_VALUES + UNITS + NEAR_UNITS:
            self.assert_error(InvalidPoint, step_box, Box([2], [1]), value, value=value)
            self.assert_error(InvalidPoint, step_back, Box([4], [1]), value, None, value=value)
            self.assert_error(InvalidNumber, step_back, Box([4], [1]), HALF, value, value=value)


if __name__ == "__main__":
    unittest.main()
