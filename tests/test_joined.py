"""Joined boxes and tellings (points 86 and 87)."""

import unittest

from neverlouder.boxes import Box
from neverlouder.built import box_of
from neverlouder.errors import (
    InvalidBox, InvalidLinks, InvalidMany, InvalidShare, InvalidTelling, NoBox, NotAlike, NotNought, TooMany,
)
from neverlouder.joined import delayed, led, product, product_telling, put_in, share, share_telling
from neverlouder.judged import is_never_louder
from neverlouder.made import does, made_table, telling_of
from neverlouder.played import answers
from neverlouder.ratios import Ratio
from neverlouder.steps import step_back
from neverlouder.tables import entry_product
from neverlouder.twins import Twin
from tests.helper import HALF, NEAR_UNITS, ODD_VALUES, POINTS, UNITS, Chance, Exact, Looks, exact

THIRD = Ratio(1, 3)
KEEPS = Box([1, 2], [2, 1])
PLACES = (0, THIRD, Twin(Ratio(-1, 4), HALF))
SHARES = (0, 1, HALF, Ratio(2, 7), Ratio(1), Ratio(0))
NO_SHARES = ODD_VALUES + (-1, 2, Ratio(-1, 10 ** 9), Ratio(10 ** 9 + 1, 10 ** 9), Twin(0), Twin(HALF))
NO_LINKS = ODD_VALUES + (
    [0], [(0,)], [(0, 0, 0)], [[0, 0]], [(1, 0)], [(0, 1)], [(0, 0), (0, Twin(0, -1))], [(True, 0)], [(0, False)],
    [(0, None)], [(0, 0)] * 9, (0, 0), ((0, 0), 0), {0: 0}, 0, [(2, 0)], [(0, NEAR_UNITS[0])],
)


def soft_boxes(seed, many):
    chance = Chance(seed)
    return [box_of((chance.steps(chance.below(4))[0], chance.pick((0, HALF) + UNITS))) for _ in range(many)]


def any_boxes(seed, many):
    chance = Chance(seed)
    return [Box(chance.curve(3), [5] + chance.curve(2)) for _ in range(many)]


def pairs(seed):
    boxes = soft_boxes(seed, 6) + any_boxes(seed + 1, 5) + [Box([], [1]), KEEPS]
    return list(zip(boxes, boxes[3:] + boxes[:3]))


def worth(box, at):
    return exact(box.worth(at))


class Products(Looks, unittest.TestCase):
    def test_by_worths(self):
        for box, other in pairs(351):
            found = product(box, other)
            self.assertIs(found.__class__, Box)
            for at in PLACES:
                self.assertEqual(exact(found.worth(at)).twin(), (worth(box, at) * worth(other, at)).twin())
            row = [1, Twin(0, 2), 0, -1, HALF, 3]
            self.assertEqual(answers(found, row), answers(box, answers(other, row)))
            self.assertEqual(product(other, box), found)

    def test_never_louder_ones(self):
        for box, other in pairs(353)[:3]:
            self.assert_answer(True, is_never_louder(product(box, other)))

    def test_by_hand(self):
        self.assertEqual(product(Box([1, 1], [2]), KEEPS), Box([1, 3, 2], [4, 2]))
        self.assertEqual(product(box=Box([2, 1], [3]), other=Box([3], [2, 1])), Box([1], [1]))
        self.assertEqual(product(KEEPS, Box([], [1])), Box([], [1]))

    def test_too_many(self):
        wide = Box([1] * 21, [1])
        self.assertEqual(product(wide, Box([1] * 21, [1])).degree, 40)
        for first, second in ((wide, Box([1] * 22, [1])), (Box([1], [1] * 21), Box([1], [9] + [1] * 21))):
            self.assert_error(TooMany, product, first, second, what="degree", limit=40)
            self.assert_error(TooMany, product, second, first, what="degree", limit=40)
        # Not yet in lowest terms there are too many.
        self.assert_error(TooMany, product, Box([1], [9] + [1] * 21), Box([9] + [1] * 21, [7] + [1] * 20), what="degree", limit=40)
        self.assertEqual(product(Box([], [1]), Box([1] * 41, [1])), Box([], [1]))


class Shares(Looks, unittest.TestCase):
    def test_by_worths(self):
        for box, other in pairs(354):
            for part in SHARES:
                found = share(box, other, part)
                s = exact(part)
                for at in PLACES:
                    wanted = s * worth(box, at) + (Exact(1) - s) * worth(other, at)
                    self.assertEqual(found.worth(at), wanted.twin())
                row = [1, Twin(0, 2), 0, -1]
                wanted = [exact(one) * s + exact(two) * (Exact(1) - s) for one, two in zip(answers(box, row), answers(other, row))]
                self.assertEqual(answers(found, row), [one.twin() for one in wanted])
            self.assertEqual((share(box, other, 1), share(box, other, 0)), (box, other))

    def test_never_louder_ones(self):
        for box, other in pairs(356)[:3]:
            self.assert_answer(True, is_never_louder(share(box, other, Ratio(1, 5))))

    def test_by_hand(self):
        self.assertEqual(share(box=Box([1], [1]), other=Box([0, 1], [1]), ratio=THIRD), Box([1, 2], [3]))
        self.assertEqual(share(Box([1], [1]), Box([-1], [1]), HALF), Box([], [1]))

    def test_too_many(self):
        for part in (HALF, 0, 1):
            self.assert_error(TooMany, share, Box([1], [9] + [1] * 21), Box([1], [7] + [1] * 20), part, what="degree", limit=40)
        self.assertEqual(share(Box([1] * 41, [1]), Box([0] * 40 + [1], [1]), HALF).degree, 40)
        self.assert_error(TooMany, share, Box([1] * 41, [1]), Box([1], [2, 1]), HALF, what="degree", limit=40)

    def test_wrong(self):
        for value in NO_SHARES:
            self.assert_error(InvalidShare, share, KEEPS, KEEPS, value, value=value)
            self.assert_error(InvalidShare, share, Box([1] * 41, [1]), Box([1], [2, 1]), value, value=value)


class Delayed(Looks, unittest.TestCase):
    def test_later(self):
        for box, _ in pairs(357):
            for many in (0, 1, 3, 7):
                row = [1, Twin(0, 2), 0, -1, HALF, 3, 1, 0]
                found = delayed(box, many)
                self.assertEqual(answers(found, row), ([Twin(0)] * many + answers(box, row))[:8])
            self.assertEqual(delayed(box, 0), box)

    def test_by_hand(self):
        self.assertEqual(delayed(box=KEEPS, many=2), Box([0, 0, 1, 2], [2, 1]))
        self.assertEqual(delayed(Box([], [1]), 10 ** 12), Box([], [1]))

    def test_too_many(self):
        self.assertEqual(delayed(KEEPS, 39).degree, 40)
        for box, many in ((KEEPS, 40), (Box([1], [1]), 41), (Box([1] * 41, [1]), 1), (KEEPS, 10 ** 12)):
            self.assert_error(TooMany, delayed, box, many, what="degree", limit=40)

    def test_wrong(self):
        for value in ODD_VALUES + (-1, Ratio(1), Twin(1)):
            self.assert_error(InvalidMany, delayed, KEEPS, value, value=value)


class PutIn(Looks, unittest.TestCase):
    def test_by_worths(self):
        for box, other in pairs(358):
            begun = delayed(other, 1)
            found = put_in(box, begun)
            self.assertIs(found.__class__, Box)
            for at in PLACES:
                near = begun.worth(at)
                if near.size().is_below(1) and found.worth(at) is not None:
                    self.assertEqual(found.worth(at), box.worth(near))

    def test_never_louder_ones(self):
        for other in soft_boxes(360, 10):
            for box in (KEEPS, Box([1, 1], [2]), Box([HALF, 0, Twin(0, HALF)], [1])):
                self.assert_answer(True, is_never_louder(put_in(box, delayed(other, 1))))

    def test_by_hand(self):
        self.assertEqual(put_in(KEEPS, Box([0, 0, 1], [1])), Box([1, 0, 2], [2, 0, 1]))
        self.assertEqual(put_in(box=KEEPS, other=Box([], [1])), Box([HALF], [1]))
        self.assertEqual(put_in(Box([Twin(0, 1)], [1]), Box([0, 1], [5, 1])), Box([Twin(0, 1)], [1]))
        self.assertEqual(put_in(Box([0, 1], [1]), Box([0, 3], [5, 1])), Box([0, 3], [5, 1]))

    def test_not_nought(self):
        for other in (KEEPS, Box([1], [1]), Box([Ratio(1, 10 ** 9), 1], [1]), Box([1] * 41, [1])):
            self.assert_error(NotNought, put_in, KEEPS, other)
            self.assert_error(NotNought, put_in, Box([1] * 41, [1]), other)

    def test_too_many(self):
        self.assertEqual(put_in(Box([1] * 6, [3]), Box([0] * 8 + [1], [1])).degree, 40)
        for box, other in ((Box([1] * 7, [3]), Box([0] * 7 + [1], [1])), (Box([1, 1, 1], [9]), Box([0, 1], [9] + [1] * 21))):
            self.assert_error(TooMany, put_in, box, other, what="degree", limit=40)


class Led(Looks, unittest.TestCase):
    def test_by_steps_back(self):
        chance = Chance(361)
        for box in soft_boxes(362, 8) + [KEEPS]:
            for many in range(9):
                links = chance.steps(many)[0]
                wanted = box
                for point, one in reversed(links):
                    wanted = step_back(wanted, point, one)
                found = led(links, box)
                self.assertEqual(found, wanted)
                self.assertEqual(led(tuple(links), box), wanted)
            self.assert_answer(True, is_never_louder(led(chance.steps(3)[0], box)))

    def test_by_words(self):
        links = [(HALF, Twin(0, THIRD)), (0, Ratio(-1, 2))]
        for box in soft_boxes(363, 5):
            found = led(links=links, box=box)
            for at in PLACES:
                g = worth(box, at)
                for point, one in reversed(links):
                    z, w, x = exact(point), exact(one), exact(at)
                    b = (x - z) / (Exact(1) - z.mirror() * x)
                    g = (w + b * g) / (Exact(1) + w.mirror() * b * g)
                self.assertEqual(found.worth(at), g.twin())

    def test_louder_ones_stay_louder(self):
        chance = Chance(364)
        for box in (Box([2], [1]), Box([1, 1], [Ratio(19, 10)]), Box([1], [1, -2])):
            for many in (0, 1, 4):
                self.assert_answer(False, is_never_louder(led(chance.steps(many)[0], box)))

    def test_steps_are_links(self):
        links = [(0, HALF), (HALF, THIRD), (Twin(0, HALF), 0)]
        for last in (0, HALF, 1):
            self.assertEqual(led(links, Box([last], [1])), box_of((links, last)))
        self.assertEqual(led([], KEEPS), KEEPS)

    def test_no_box(self):
        # 1 + 1/2 times -1/2 times 4 is 0.
        for links, box in (([(HALF, HALF)], Box([4], [1])), ([(THIRD, 0), (HALF, HALF)], Box([4, 1], [1]))):
            self.assert_error(NoBox, led, links, box)
        # With this one the base is nought.
        self.assert_error(NoBox, led, [(HALF, HALF)], Box([2, -1], [HALF, -1]))

    def test_noughts_on_the_way_do_no_harm(self):
        # What would be no box there becomes one further on.
        links = [(THIRD, THIRD), (HALF, HALF)]
        g = exact(4)
        found = led(links, Box([4], [1]))
        self.assert_answer(True, does(found, [(THIRD, [THIRD])]))
        for at in (Ratio(1, 5), Twin(0, THIRD)):
            near = g
            for point, one in reversed(links):
                z, w, x = exact(point), exact(one), exact(at)
                b = (x - z) / (Exact(1) - z.mirror() * x)
                near = (w + b * near) / (Exact(1) + w.mirror() * b * near)
            self.assertEqual(found.worth(at), near.twin())

    def test_too_many(self):
        self.assertEqual(led([(HALF, HALF)] * 8, Box([0] * 32 + [1], [3])).degree, 40)
        wide = Box([0] * 33 + [1], [3])
        self.assert_error(TooMany, led, [(HALF, HALF)] * 8, wide, what="degree", limit=40)
        # Where there is no box at the end, this comes first.
        self.assert_error(NoBox, led, [(HALF, HALF)], Box([4] + [0] * 39 + [1], [1]))

    def test_wrong(self):
        for value in NO_LINKS:
            self.assert_error(InvalidLinks, led, value, KEEPS, value=value)
            self.assert_error(InvalidLinks, led, value, None, value=value)
        for value in ODD_VALUES:
            self.assert_error(InvalidBox, led, [(0, 0)] * 8, value, value=value)


class Tellings(Looks, unittest.TestCase):
    def samples(self):
        chance = Chance(365)
        for box, other in pairs(366)[:9]:
            for points, many in ((chance.points(2), 1), (chance.points(1), 4), (chance.points(2), 3)):
                yield box, other, telling_of(box, points, many), telling_of(other, points, many)

    def assert_telling(self, found, telling):
        self.assertIs(found.__class__, list)
        self.assertEqual([point for point, _ in found], [point for point, _ in telling])
        for one, (_, told) in zip(found, telling):
            self.assertIs(one.__class__, tuple)
            self.assert_twins(one[1])
            self.assertEqual(len(one[1]), len(told))

    def test_what_joined_boxes_do(self):
        for box, other, telling, more in self.samples():
            found = product_telling(telling, more)
            self.assert_telling(found, telling)
            self.assert_answer(True, does(product(box, other), found))
            for part in SHARES:
                found = share_telling(telling, more, part)
                self.assert_telling(found, telling)
                self.assert_answer(True, does(share(box, other, part), found))

    def test_by_hand(self):
        first = [(0, [1, 2]), (HALF, (Twin(0, 1),))]
        second = ((Twin(0), [3, -1]), (HALF, [Twin(0, 1)]))
        self.assertEqual(product_telling(first, second), [(Twin(0), [Twin(3), Twin(5)]), (Twin(HALF), [Twin(-1)])])
        found = share_telling(telling=first, other=second, ratio=HALF)
        self.assertEqual(found, [(Twin(0), [Twin(2), Twin(HALF)]), (Twin(HALF), [Twin(0, 1)])])
        self.assertEqual(product_telling(telling=[(0, [0, 0, 5])], other=[(0, [0, 0, 7])]), [(Twin(0), [Twin(0)] * 3)])
        self.assertEqual(share_telling([(0, [1, 1])], [(0, [-1, -1])], HALF), [(Twin(0), [Twin(0)] * 2)])

    def test_made_tables_of_what_is_put_in(self):
        g = delayed(Box([HALF, 1], [2, 1]), 1)
        f = Box([1, 1], [Twin(2, 1)])
        places = [HALF, THIRD, Twin(0, HALF)]
        near = [g.worth(point) for point in places]
        wanted = entry_product(made_table(telling_of(f, near, 1)), made_table(telling_of(g, places, 1)))
        self.assertEqual(made_table(telling_of(put_in(f, g), places, 1)), wanted)

    def test_not_alike(self):
        telling = [(0, [1, 2]), (HALF, [1])]
        for other in ([(0, [1, 2])], [(0, [1]), (HALF, [1])], [(HALF, [1]), (0, [1, 2])], [(0, [1, 2]), (THIRD, [1])],
                      [(0, [1, 2]), (HALF, [1]), (THIRD, [1])], [(0, [1, 2]), (HALF, [1, 0])]):
            self.assert_error(NotAlike, product_telling, telling, other)
            self.assert_error(NotAlike, share_telling, telling, other, 0)
            for value in NO_SHARES:
                self.assert_error(InvalidShare, share_telling, telling, other, value, value=value)

    def test_wrong(self):
        telling = [(0, [1])]
        wide = [(0, [1] * 4), (HALF, [1] * 3)]
        for other, position in (([], None), (None, None), ([(0, [1]), (0, [1])], 1), ([(1, [1])], 0), ([(0, [])], 0)):
            self.assert_error(InvalidTelling, product_telling, telling, other, position=position)
            self.assert_error(InvalidTelling, share_telling, telling, other, None, position=position)
            self.assert_error(TooMany, product_telling, wide, other, what="answers", limit=6)
        self.assert_error(TooMany, product_telling, telling, wide, what="answers", limit=6)
        self.assert_error(TooMany, share_telling, telling, wide, None, what="answers", limit=6)


class Wrong(Looks, unittest.TestCase):
    def test_boxes(self):
        for value in ODD_VALUES:
            for call in (product, put_in):
                self.assert_error(InvalidBox, call, value, None, value=value)
                self.assert_error(InvalidBox, call, KEEPS, value, value=value)
            self.assert_error(InvalidBox, share, value, None, None, value=value)
            self.assert_error(InvalidBox, share, KEEPS, value, None, value=value)
            self.assert_error(InvalidBox, delayed, value, None, value=value)


if __name__ == "__main__":
    unittest.main()
