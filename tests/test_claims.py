"""Claims and their papers (points 93 and 94)."""

import unittest

from neverlouder.bounds import is_bar_within, is_doable_within
from neverlouder.boxes import Box
from neverlouder.built import box_of, shows, steps_of
from neverlouder.claims import contrary, is_claim, is_paper_of, is_true, paper_of, words
from neverlouder.errors import InvalidClaim
from neverlouder.judged import is_loud_point, is_never_louder
from neverlouder.barred import is_bar_of
from neverlouder.made import is_doable, kind, made_table
from neverlouder.ratios import Ratio
from neverlouder.spots import is_in_spot
from neverlouder.tables import form
from neverlouder.twins import Twin
from neverlouder.within import shows_within
from tests.helper import HALF, NEAR_UNITS, ODD_VALUES, UNITS, Chance, Looks, as_tuples, lists_in

THIRD = Ratio(1, 3)
MANY = [(0, [HALF])]
ONE = [(0, [HALF]), (HALF, (Ratio(4, 5),))]
NONE = [(0, [HALF]), (HALF, [Ratio(9, 10)])]
SIX = [(0, [0] * 4), (HALF, [0, 0])]
SOFT = Box([1, 1], [2])
LOUD = Box([1], [1, -1])
TRUE = (
    ("does", MANY), ("does", ONE), ("cannot", NONE), ("only", ONE), ("notonly", MANY), ("notonly", NONE), ("does", SIX),
    ("in", MANY, HALF, Ratio(4, 5)), ("out", MANY, HALF, Ratio(9, 10)), ("out", NONE, THIRD, 0), ("in", ONE, THIRD, Ratio(5, 7)),
    ("out", ONE, THIRD, 0), ("softer", MANY, 1), ("softer", NONE, 5), ("softer", MANY, Ratio(1, 4)), ("louder", MANY, Ratio(1, 5)),
    ("louder", NONE, 1), ("never", SOFT), ("never", Box([], [1])), ("loud", LOUD), ("loud", Box([2], [1])),
)
OTHER = {
    "does": "cannot", "only": "notonly", "in": "out", "softer": "louder", "never": "loud",
}
OTHER.update({value: key for key, value in OTHER.items()})
NO_CLAIMS = ODD_VALUES + (
    (), ("does",), ("cannot", []), ["does", MANY], ("Does", MANY), ("do", MANY), (True, MANY), (["does"], MANY), ("does", MANY, 0),
    ("does", [(0, [1]), (0, [2])]), ("only", [(0, [1] * 4), (HALF, [1] * 3)]), ("only", [(1, [0])]), ("does", None), ("does", 1),
    ("notonly", SOFT), ("in", MANY), ("in", MANY, HALF), ("in", MANY, HALF, 0, 0), ("in", MANY, 0, HALF), ("out", MANY, Twin(0), HALF),
    ("in", MANY, 1, 0), ("out", MANY, Twin(Ratio(3, 5), Ratio(4, 5)), 0), ("in", MANY, HALF, True), ("in", MANY, True, 0),
    ("in", MANY, HALF, None), ("in", SIX, THIRD, 0), ("out", SIX, THIRD, 0), ("in", [], HALF, 0), ("softer", MANY), ("softer", MANY, 0),
    ("softer", MANY, -1), ("louder", MANY, Ratio(0)), ("louder", MANY, Twin(1)), ("softer", MANY, True), ("softer", MANY, 1, 1),
    ("louder", MANY, "1"), ("never",), ("never", MANY), ("never", SOFT, 1), ("loud", None), ("loud", [SOFT]), ("loud", Box, 1),
    ("never", Box([0] * 9 + [1], [1])), ("loud", Box([1], [9] + [0] * 8 + [1])), ("does", MANY, HALF, 0), "does", ("never", Box),
    (("does",), MANY), (None, MANY), ("", MANY), ("does", {}), ("does", "telling"),
)
ODD_PAPERS = ODD_VALUES + (
    (), [], [()], ((), ()), [0], [0, 0], (0,), 0, 1, HALF, Twin(0), ([], 0), ([], 2), (([], 0), ([], 0)), (([], 0), [0]), (None, None),
    ([], 0, 0), [[], 0], ((), 0), (([], 0), [0, 0]), ([0], [0]), Ratio(99, 100),
)


def samples(seed, many):
    """Claims of all words, of tellings of all kinds."""
    chance = Chance(seed)
    found = list(TRUE)
    for _ in range(many):
        telling = chance.telling(chance.shape(5))
        if chance.below(3) == 0:
            box = box_of((chance.steps(2)[0], chance.pick(UNITS)))
            telling = [(point, box.around(point, count)) for point, count in zip(chance.points(2), (1, 2))]
        told = [Twin(1) * point for point, _ in telling]
        free = [point for point in (0, HALF, THIRD, Twin(0, THIRD), Ratio(1, 7)) if Twin(1) * point not in told][0]
        found += [("does", telling), ("only", telling), ("in", telling, free, chance.small()), ("softer", telling, chance.pick((1, 2, Ratio(1, 3))))]
        found.append(("never", Box(chance.curve(2), [4] + chance.curve(2))))
    return found


def is_true_by_words(claim):
    word, thing = claim[:2]
    left = {
        "does": lambda: is_doable(thing), "only": lambda: kind(thing) == "one",
        "in": lambda: is_doable(thing) and is_in_spot(thing, *claim[2:]),
        "softer": lambda: is_doable_within(thing, claim[2]), "never": lambda: is_never_louder(thing),
    }
    return left[word]() if word in left else not left[OTHER[word]]()


class Kinds(Looks, unittest.TestCase):
    def test_words(self):
        wanted = ["does", "cannot", "only", "notonly", "in", "out", "softer", "louder", "never", "loud"]
        self.assertEqual(words(), wanted)
        words().append(1)
        self.assertEqual(words(), wanted)

    def test_claims(self):
        for claim in TRUE:
            self.assert_answer(True, is_claim(claim))
            self.assert_answer(True, is_claim(value=(OTHER[claim[0]],) + claim[1:]))
            self.assert_answer(False, is_claim(list(claim)))
            self.assert_answer(False, is_claim(claim + (0,)))
            self.assert_answer(False, is_claim(claim[:-1]) if len(claim) > 2 else False)
        # Where the text says list, a tuple is a list as well.
        self.assert_answer(True, is_claim(as_tuples(TRUE[0])))
        self.assert_answer(True, is_claim(("in", [(0, [0] * 4), (HALF, [0])], THIRD, 10 ** 9)))
        self.assert_answer(True, is_claim(("loud", Box([0] * 8 + [1], [1]))))

    def test_no_claims(self):
        for value in NO_CLAIMS:
            self.assert_answer(False, is_claim(value))
            for call in (is_true, contrary, paper_of):
                self.assert_error(InvalidClaim, call, value, value=value)
            self.assert_error(InvalidClaim, is_paper_of, value, (), value=value)


class Truths(Looks, unittest.TestCase):
    def test_true_ones(self):
        for claim in TRUE:
            self.assert_answer(True, is_true(claim))
            self.assert_answer(False, is_true(contrary(claim)))

    def test_by_words(self):
        seen = {}
        for claim in samples(391, 25):
            for one in (claim, (OTHER[claim[0]],) + claim[1:]):
                wanted = is_true_by_words(one)
                self.assert_answer(wanted, is_true(one))
                seen.setdefault(one[0], set()).add(wanted)
        self.assertEqual(sorted(seen), sorted(words()))
        for found in seen.values():
            self.assertEqual(found, {True, False})

    def test_contraries(self):
        for claim in samples(392, 5):
            found = contrary(claim)
            self.assertIs(found.__class__, tuple)
            self.assertEqual(found[0], OTHER[claim[0]])
            self.assert_answer(True, is_claim(found))
            self.assert_answer(not is_true(claim), is_true(found))
            if found[0] in ("never", "loud"):
                self.assertEqual(found[1:], claim[1:])
                continue
            self.assertEqual(found[1], [(Twin(1) * point, [Twin(1) * one for one in told]) for point, told in claim[1]])
            self.assertEqual([one.__class__ for one in found[1]], [tuple] * len(found[1]))
            if found[0] in ("in", "out"):
                self.assertEqual(found[2:], (Twin(1) * claim[2], Twin(1) * claim[3]))
            elif found[0] in ("softer", "louder"):
                self.assertEqual(found[2:], (Ratio(1) * claim[2],))
            back = contrary(found)
            self.assertEqual(contrary(back), found)
            held = [id(one) for one in lists_in(claim) + lists_in(found) + lists_in(back)]
            self.assertEqual(len(held), len(set(held)))
        self.assertEqual(contrary(claim=("softer", MANY, 3)), ("louder", [(Twin(0), [Twin(HALF)])], Ratio(3)))


class Papers(Looks, unittest.TestCase):
    def test_just_the_true_ones_have_papers(self):
        for claim in samples(393, 12):
            for one in (claim, contrary(claim)):
                paper = paper_of(one)
                self.assertEqual(paper is not None, is_true(one))
                if paper is not None:
                    self.assert_answer(True, is_paper_of(one, paper))
                    self.assert_answer(False, is_paper_of(contrary(one), paper))
                    self.assert_shown(one, paper)
                    self.assertEqual(paper_of(one), paper)
                    self.assert_small(paper)
                for value in ODD_PAPERS:
                    found = is_paper_of(one, value)
                    self.assertIs(found.__class__, bool)
                    self.assertFalse(found and not is_true(one))

    def assert_small(self, value):
        if isinstance(value, (list, tuple)):
            self.assertLessEqual(len(value), 200)
            for one in value:
                self.assert_small(one)
        else:
            self.assertIs(value.__class__, Twin)
            for part in (value.plain, value.side):
                self.assertLess(max(abs(part.top), part.bottom), 10 ** 3000)

    def assert_shown(self, claim, paper):
        word, thing = claim[:2]
        beside = thing + [(claim[2], [claim[3]])] if word in ("in", "out") and isinstance(thing, list) else thing
        look = {
            "does": lambda: shows(thing, paper), "cannot": lambda: is_bar_of(thing, paper), "in": lambda: shows(beside, paper),
            "out": lambda: is_bar_of(beside, paper), "softer": lambda: shows_within(thing, claim[2], paper),
            "louder": lambda: is_bar_within(thing, claim[2], paper), "never": lambda: paper == (),
            "loud": lambda: is_loud_point(thing, paper), "only": lambda: self.shows_only(thing, paper),
            "notonly": lambda: self.shows_not_only(thing, paper),
        }
        self.assertTrue(look[word](), claim)

    def shows_only(self, telling, paper):
        steps, weights = paper
        return shows(telling, steps) and any([not one.is_nought for one in weights]) and form(made_table(telling), weights) == Ratio(0)

    def shows_not_only(self, telling, paper):
        if isinstance(paper, list):
            return is_bar_of(telling, paper)
        first, second = paper
        return shows(telling, first) and shows(telling, second) and box_of(first) != box_of(second)

    def test_steps(self):
        steps = ([(0, HALF)], 1)
        for claim, paper, wanted in (
            (("does", MANY), steps, True), (("does", MANY), ([], HALF), True), (("does", MANY), ([], THIRD), False),
            (("does", MANY), as_tuples(steps), True), (("does", MANY), [[(0, HALF)], 1], False), (("does", ONE), steps, True),
            (("does", ONE), ([(0, HALF)], -1), False), (("does", NONE), steps, False), (("in", MANY, HALF, Ratio(4, 5)), steps, True),
            (("in", MANY, HALF, HALF), steps, False), (("in", MANY, HALF, HALF), ([], HALF), True), (("softer", MANY, 4), ([], HALF), True),
            (("softer", MANY, Ratio(1, 4)), ([], HALF), True), (("softer", MANY, Ratio(1, 5)), ([], HALF), False),
            (("softer", [(0, [2])], 4), ([], 2), True), (("does", [(0, [2])]), ([], 2), False), (("cannot", NONE), steps, False),
        ):
            self.assert_answer(wanted, is_paper_of(claim=claim, value=paper))
            self.assert_answer(False, is_paper_of(contrary(claim), paper))

    def test_bars(self):
        told = [Ratio(-11, 20), Ratio(3, 4)]
        for claim, paper, wanted in (
            (("cannot", NONE), told, True), (("cannot", NONE), tuple(told), True), (("cannot", NONE), [1, 1], False),
            (("cannot", NONE), told + [0], False), (("cannot", NONE), [0, 0], False), (("notonly", NONE), told, True),
            (("out", MANY, HALF, Ratio(9, 10)), told, True), (("out", MANY, HALF, Ratio(4, 5)), told, False), (("louder", NONE, 1), told, True),
            (("louder", NONE, 100), told, False), (("cannot", ONE), told, False), (("notonly", MANY), [1], False),
            (("cannot", [(0, [2])]), [Twin(0, -1)], True), (("cannot", [(0, [2])]), 1, False),
        ):
            self.assert_answer(wanted, is_paper_of(claim, paper))
            self.assert_answer(False, is_paper_of(contrary(claim), paper))

    def test_only(self):
        claim = ("only", ONE)
        steps, weights = paper_of(claim)
        self.assert_answer(True, is_paper_of(claim, (steps, weights)))
        self.assert_answer(True, is_paper_of(claim, as_tuples((steps, weights))))
        self.assert_answer(True, is_paper_of(claim, (([(0, HALF)], 1), [Twin(0, 3) * one for one in weights])))
        for paper in (
            (steps, [0, 0]), (steps, [1, 0]), (steps, weights + [Twin(0)]), (steps, weights[:1]), (([], HALF), weights), (steps,), steps, weights,
            (weights, steps), [steps, weights], (steps, weights, 0), (None, weights), (steps, None), (steps, [True, False]), (steps, steps),
        ):
            self.assert_answer(False, is_paper_of(claim, paper))
        self.assert_answer(False, is_paper_of(("only", MANY), (([], HALF), [0])))
        self.assert_answer(False, is_paper_of(("only", NONE), (steps, weights)))

    def test_two_boxes(self):
        first, second = ([(0, HALF)], 0), ([(0, HALF)], 1)
        claim = ("notonly", MANY)
        for paper, wanted in (
            ((first, second), True), ((second, first), True), ((first, first), False), ((first, ([], HALF)), False), (first, False),
            ((([], HALF), second), True), ([first, second], False), ((first, second, first), False), ((first, ([], THIRD)), False),
            ((first,), False), ((first, None), False), ((first, ([(0, HALF)], 2)), False),
        ):
            self.assert_answer(wanted, is_paper_of(claim, paper))
        self.assert_answer(False, is_paper_of(("notonly", ONE), (second, second)))

    def test_boxes(self):
        for box in (SOFT, Box([], [1]), Box([1], [1])):
            self.assertEqual(paper_of(("never", box)), ())
            self.assertIsNone(paper_of(claim=("loud", box)))
            self.assert_answer(True, is_paper_of(("never", box), ()))
            for value in ([], None, False, 0, "", {}, ((),), (0,)):
                self.assert_answer(False, is_paper_of(("never", box), value))
                self.assert_answer(False, is_paper_of(("loud", box), value))
        for box in (LOUD, Box([2], [1]), Box([0, 1 + Ratio(1, 10 ** 9)], [1])):
            self.assertIsNone(paper_of(("never", box)))
            self.assert_answer(False, is_paper_of(("never", box), ()))
            self.assert_answer(True, is_paper_of(("loud", box), paper_of(("loud", box))))
        for value, wanted in ((HALF, True), (Twin(HALF, THIRD), True), (-HALF, False), (1, False), (0, False), ((), False)):
            self.assert_answer(wanted, is_paper_of(("loud", LOUD), value))

    def test_one_thing_changed(self):
        for claim in samples(394, 4):
            for one in (claim, contrary(claim)):
                paper = paper_of(one)
                if paper is not None and paper != ():
                    for changed in changes(paper):
                        found = is_paper_of(one, changed)
                        self.assertIs(found.__class__, bool)
                        if one[0] in ("does", "in", "softer") and found:
                            self.assertTrue(self.steps_show(one, changed))

    def steps_show(self, claim, paper):
        word, thing = claim[:2]
        if word == "softer":
            return shows_within(thing, claim[2], paper)
        return shows(thing if word == "does" else list(thing) + [(claim[2], [claim[3]])], paper)

    def test_papers_are_new(self):
        claim = ("notonly", MANY)
        first, second = paper_of(claim), paper_of(claim)
        held = [id(one) for one in lists_in(first) + lists_in(second)]
        self.assertEqual((len(held), len(set(held))), (4, 4))
        self.assertEqual(steps_of(MANY), first[0])

    def test_wrong_numbers(self):
        for value in NEAR_UNITS:
            self.assert_answer(False, is_paper_of(("does", [(0, [0])]), ([(0, 0)], value)))


def changes(value):
    """Values that differ from this one in one thing."""
    if isinstance(value, (list, tuple)):
        again = value.__class__
        for at, one in enumerate(value):
            yield again(list(value[:at]) + list(value[at + 1:]))
            for other in changes(one):
                yield again(list(value[:at]) + [other] + list(value[at + 1:]))
        yield again(list(value) + [0])
    else:
        yield from (Twin(1) * value + Ratio(1, 10), True, None, Twin(0, 1) * value, str(value))


if __name__ == "__main__":
    unittest.main()
