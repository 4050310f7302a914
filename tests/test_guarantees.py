"""The six guarantees (point 4) and the example of the overview (point 1), over the whole program."""

import unittest

from neverlouder.barred import bar_of, is_bar_of
from neverlouder.bounds import bar_within, is_bar_within, is_doable_within
from neverlouder.boxes import Box
from neverlouder.built import box_of, shows, steps_of
from neverlouder.claims import is_paper_of, paper_of
from neverlouder.desk import Desk
from neverlouder.distances import distance
from neverlouder.forms import read
from neverlouder.joined import delayed, led, product, put_in, share
from neverlouder.judged import is_loud_point, is_never_louder, loud_point
from neverlouder.keepers import is_keeper, keeper_by, noughts
from neverlouder.made import does, is_doable, kind, made_table, mixture_in, mixture_out, telling_of
from neverlouder.members import free_of, member, only_box
from neverlouder.played import is_softer
from neverlouder.ratios import Ratio
from neverlouder.ranks import rank
from neverlouder.softest import shown_by, softest_between
from neverlouder.spots import goes_with, is_in_spot, on_rim_box, spot
from neverlouder.squares import is_never_below
from neverlouder.texts import text_of
from neverlouder.turns import Turn, answers_moved, box_moved, box_put, moved_telling
from neverlouder.twins import Twin
from neverlouder.within import box_within, is_in_spot_within, shows_within, spot_within, steps_within
from tests.helper import HALF, POINTS, UNITS, Chance, Looks

ROWS = ([1] + [0] * 12, [1, Twin(0, 1), -1, HALF, Twin(2, 1), 0, 0, 0, 0])


def told_count(telling):
    return sum([len(told) for _, told in telling])


def tellings(seed, many, most=6):
    """Tellings of all kinds: told by chance, by soft boxes and by keepers."""
    chance = Chance(seed)
    found = []
    for k in range(many):
        shape = chance.shape(most)
        points = chance.points(len(shape))
        if k % 3 == 0:
            found.append([(point, [chance.small() for _ in range(count)]) for point, count in zip(points, shape)])
        else:
            box = box_of((chance.steps(1 + chance.below(3))[0], HALF if k % 3 == 1 else chance.pick(UNITS)))
            found.append([(point, box.around(point, count)) for point, count in zip(points, shape)])
    return found


def free_point(telling):
    told = [Twin(1) * point for point, _ in telling]
    return [point for point in POINTS if Twin(1) * point not in told][0]


class Guarantees(Looks, unittest.TestCase):
    def test_steps_or_a_mixture(self):
        seen = {}
        for telling in tellings(411, 60):
            steps, weights = steps_of(telling), bar_of(telling)
            self.assertNotEqual(steps is None, weights is None)
            seen[kind(telling)] = True
            self.assert_answer(steps is not None, is_doable(telling))
            if steps is not None:
                self.assert_answer(True, shows(telling, steps))
                box = box_of(steps)
                self.assert_answer(True, does(box, telling))
                self.assert_answer(True, is_never_louder(box))
                self.assertTrue(all([is_softer(box, row) for row in ROWS]))
                self.assert_answer(True, is_never_below(made_table(telling)))
            else:
                self.assert_answer(True, is_bar_of(telling, weights))
                self.assertTrue(mixture_in(telling, weights).is_below(mixture_out(telling, weights)))
        self.assertEqual(sorted(seen), ["many", "none", "one"])

    def test_all_of_them(self):
        chance = Chance(412)
        for telling in tellings(413, 30, 5):
            which = kind(telling)
            if which == "one":
                box = only_box(telling)
                self.assertEqual(box, keeper_by(telling))
                self.assert_answer(True, is_keeper(box))
                self.assertEqual(noughts(box), rank(made_table(telling)))
            self.assertEqual(only_box(telling) is None, which != "one")
            if which == "many":
                boxes = []
                for _ in range(3):
                    free = box_of((chance.steps(chance.below(3))[0], chance.pick((0, HALF) + UNITS)))
                    box = member(telling, free)
                    self.assert_answer(True, does(box, telling))
                    self.assert_answer(True, is_never_louder(box) if box.degree <= 8 else True)
                    self.assertEqual(free_of(telling, box), free)
                    boxes.append((free, box))
                for free, box in boxes:
                    self.assertEqual([one == box for _, one in boxes], [one == free for one, _ in boxes])
                # A louder free box leads to a louder member.
                loud = member(telling, Box([Ratio(11, 10)], [1]))
                self.assert_answer(False, is_never_louder(loud))

    def test_each_box_that_does_it_is_a_member(self):
        chance = Chance(414)
        for _ in range(10):
            box = box_of((chance.steps(3)[0], HALF))
            telling = telling_of(box, chance.points(2), 1)
            free = free_of(telling, box)
            self.assert_answer(True, is_never_louder(free))
            self.assertEqual(member(telling, free), box)

    def test_spots(self):
        chance = Chance(415)
        for telling in tellings(416, 40, 5):
            point = free_point(telling)
            if not is_doable(telling):
                continue
            middle, square = spot(telling, point)
            for number in [middle] + [middle + Twin(square) * chance.small() + chance.small() * Ratio(1, 3) for _ in range(4)]:
                inside = (number - middle).size().is_at_most(square)
                self.assert_answer(inside, is_in_spot(telling, point, number))
                self.assert_answer(inside, is_doable(telling + [(point, [number])]))
                claim = ("in" if inside else "out", telling, point, number)
                self.assert_answer(True, is_paper_of(claim, paper_of(claim)))

    def test_turns(self):
        chance = Chance(417)
        for telling in tellings(418, 25, 4):
            turn = Turn(chance.pick(UNITS), chance.pick(POINTS[1:5]))
            put = moved_telling(telling, turn)
            self.assertEqual(kind(put), kind(telling))
            loud = [told for _, told in telling if not (Twin(1) * told[0]).size().is_at_most(1)]
            if not loud:
                self.assertEqual(kind(answers_moved(telling, turn)), kind(telling))
            for (one, _), (goal, _) in zip(telling, put):
                self.assertEqual(turn.at(goal), Twin(1) * one)
                self.assertEqual(distance(goal, put[0][0]), distance(one, telling[0][0]))
            point = free_point(telling)
            if is_doable(telling):
                self.assertEqual(spot(put, turn.back().at(point)), spot(telling, point))
                box = box_of(steps_of(telling))
                self.assert_answer(True, does(box_put(box, turn), put))
                self.assert_answer(True, does(box_moved(box, turn), answers_moved(telling, turn)))
                self.assert_answer(True, is_never_louder(box_put(box, turn)))

    def test_softest(self):
        for telling in tellings(419, 15, 5):
            low, high = softest_between(telling, 50)
            self.assertTrue(((high - low) * 50).is_at_most(1))
            self.assertIsNotNone(steps_within(telling, high))
            if low.sign > 0:
                weights = bar_within(telling, low)
                self.assert_answer(True, is_bar_within(telling, low, weights))
                self.assertTrue(low.is_below(shown_by(telling, weights)))
            for bound in (low + Ratio(1, 200), high, Ratio(1, 7), 1, 3):
                steps, weights = steps_within(telling, bound), bar_within(telling, bound)
                self.assertNotEqual(steps is None, weights is None)
                if steps is not None:
                    self.assert_answer(True, shows_within(telling, bound, steps))
                    self.assert_answer(True, does(box_within(telling, bound), telling))
                    middle, _ = spot_within(telling, HALF, bound)
                    self.assert_answer(True, is_in_spot_within(telling, HALF, bound, middle))

    def test_never_or_somewhere(self):
        chance = Chance(420)
        seen = []
        for _ in range(40):
            box = Box(chance.curve(4), [chance.pick((2, 4, 7))] + chance.curve(3))
            point = loud_point(box)
            seen.append(point is None)
            self.assert_answer(point is None, is_never_louder(box))
            if point is None:
                self.assert_answer(True, is_doable(telling_of(box, POINTS[:6], 1)))
                self.assertTrue(all([is_softer(box, row) for row in ROWS]))
                other = box_of((chance.steps(1)[0], 1))
                for made in (product(box, other), share(box, other, HALF), delayed(box, 1), led(chance.steps(2)[0], box)):
                    self.assert_answer(True, is_never_louder(made))
                if box.degree < 4:
                    self.assert_answer(True, is_never_louder(put_in(box, delayed(other, 1))))
            else:
                self.assert_answer(True, is_loud_point(box, point))
        self.assertIn(True, seen)
        self.assertIn(False, seen)

    def test_papers_are_read_back(self):
        for telling in tellings(421, 20, 5):
            self.assertEqual(text_of(read(text_of(telling))), text_of(telling))
            for word in ("does", "cannot"):
                paper = paper_of((word, telling))
                if paper is not None:
                    self.assertEqual(read(text_of(paper)), paper)
                    self.assert_answer(True, is_paper_of((word, telling), read(text_of(paper))))


class Overview(Looks, unittest.TestCase):
    """A box makes 1/2 of a knock at once: what may it make of the tone of 1/2?"""

    TELLING = [(0, [HALF])]

    def test_the_spot(self):
        self.assertEqual(spot(self.TELLING, HALF), (Twin(Ratio(2, 5)), Ratio(4, 25)))
        for number, wanted in ((0, True), (Ratio(4, 5), True), (Ratio(2, 5), True), (Ratio(9, 10), False), (Ratio(-1, 100), False)):
            self.assert_answer(wanted, is_in_spot(self.TELLING, HALF, number))

    def test_the_box_of_4_by_5(self):
        telling = self.TELLING + [(HALF, [Ratio(4, 5)])]
        self.assertEqual(kind(telling), "one")
        box = only_box(telling)
        self.assertEqual(box, Box([1, 2], [2, 1]))
        self.assertEqual(on_rim_box(self.TELLING, HALF, Ratio(4, 5)), box)
        self.assert_answer(True, is_keeper(box))
        self.assertEqual(box.knock(1), [Twin(HALF)])

    def test_no_box_of_9_by_10(self):
        telling = self.TELLING + [(HALF, [Ratio(9, 10)])]
        self.assertEqual(kind(telling), "none")
        self.assertEqual([[str(one) for one in row] for row in made_table(telling)], [["3/4", "11/20"], ["11/20", "19/75"]])
        weights = [Ratio(-11, 20), Ratio(3, 4)]
        self.assertEqual(mixture_out(telling, weights) - mixture_in(telling, weights), Ratio(27, 320))
        self.assert_answer(True, is_bar_of(telling, weights))
        self.assert_answer(True, is_paper_of(("cannot", telling), weights))

    def test_as_a_tone(self):
        # The tone of 1/2, cut: what the box of 4/5 makes of it comes near to 4/5 times it.
        box = Box([1, 2], [2, 1])
        self.assert_answer(False, goes_with(self.TELLING, HALF, Ratio(4, 5), Ratio(1, 3), 0))
        self.assert_answer(True, goes_with(self.TELLING, HALF, Ratio(4, 5), Ratio(1, 3), box.worth(Ratio(1, 3))))

    def test_on_a_desk(self):
        desk = Desk()
        found = desk.do_all(
            "telling t", "tell t 0 1/2", "spot t 1/2", "claim low in t 1/2 0", "claim up in t 1/2 4/5", "claim far out t 1/2 9/10", "states",
            "tell t 1/2 9/10", "kind t", "undo", "tell t 1/2 4/5", "build b t", "show b", "claim all only t", "claim soft never b", "states",
        )
        self.assertEqual(found[2], "2/5 4/25")
        self.assertEqual(found[6], "far true, low true, up true")
        self.assertEqual(found[7:10], ["far gone, low gone, up gone", "none", "tell t 1/2 9/10"])
        self.assertEqual(found[12:], ["1/2 1 by 1 1/2", "all true", "soft true", "all true, far gone, low gone, soft true, up gone"])
        for label in ("all", "soft"):
            desk.attach(label, paper_of(desk.claim_of(label)))
            self.assert_answer(True, desk.fits(label))


if __name__ == "__main__":
    unittest.main()
