"""Desks (points 95 to 98)."""

import unittest

from neverlouder.boxes import Box
from neverlouder.built import box_of, steps_of
from neverlouder.claims import contrary, is_true, paper_of
from neverlouder.commands import is_deed
from neverlouder.desk import Desk, Trial, tried
from neverlouder.errors import (
    CommandFailed, InvalidBound, InvalidClaim, InvalidCommand, InvalidCurve, InvalidLines, InvalidMany, InvalidPaper,
    InvalidPoints, InvalidRow, InvalidShare, InvalidTelling, LabelTaken, NameTaken, NoChoice, NoMember, NotDoable,
    NothingToRedo, NothingToUndo, NoughtStart, NoWorth, TooMany, UnknownLabel, UnknownName, UnknownPoint,
)
from neverlouder.joined import product, share
from neverlouder.made import telling_of
from neverlouder.members import member
from neverlouder.ratios import Ratio
from neverlouder.spots import spot
from neverlouder.texts import value_word
from neverlouder.twins import Twin
from tests.helper import HALF, ODD_VALUES, Chance, Looks, lists_in
from tests.test_commands import NO_COMMANDS

START = ("telling a", "tell a 0 1/2", "box k 1 2 by 2 1", "box h 1 1 by 2", "box z by 1", "box l 2 by 1", "telling e")
CLAIMS = (
    "claim d does a", "claim c cannot a", "claim o only a", "claim n notonly a", "claim i in a 1/2 4/5", "claim j out a 1/2 4/5",
    "claim s softer a 1/4", "claim t louder a 1/4", "claim v never h", "claim w loud h",
)


def started(*more):
    desk = Desk()
    desk.do_all(*START, *more)
    return desk


def seen(desk):
    """All that a desk tells of itself."""
    names = desk.names
    labels = desk.labels
    return (
        names, labels, len(desk), desk.lines(), desk.do("names"), desk.do("states"), [desk.do(f"show {name}") for name in names],
        [repr(desk[name]) for name in names], [repr(desk.claim_of(label)) for label in labels],
        [desk.do(f"claimed {label}") for label in labels], [desk.fits(label) for label in labels],
    )


def with_redo(desk):
    """All that a desk tells, and what can be done again, one behind the other."""
    other = desk.copy()
    found = [seen(other)]
    while True:
        try:
            found.append((other.do("redo"), seen(other)))
        except NothingToRedo:
            return found


class Answers(Looks, unittest.TestCase):
    def assert_answers(self, desk, *pairs):
        for command, wanted in pairs:
            found = desk.do(command)
            self.assertIs(found.__class__, str)
            self.assertEqual(found, wanted, command)

    def test_deeds_that_keep_tellings(self):
        self.assert_answers(
            Desk(), ("telling a", "-"), ("show a", "-"), ("tell a 0 1/2", "-"), ("tell a 1/2 1 1i", "-"), ("show a", "0 1/2, 1/2 1 1i"),
            ("next a 0 -3/4", "-"), ("show a", "0 1/2 -3/4, 1/2 1 1i"), ("copy b a", "-"), ("untell a 0", "-"), ("show a", "1/2 1 1i"),
            ("untell a 1/2", "-"), ("show a", "-"), ("show b", "0 1/2 -3/4, 1/2 1 1i"), ("copy c a", "-"), ("show c", "-"), ("names", "a b c"),
            ("drop b", "-"), ("names", "a c"), ("drop a", "-"), ("drop c", "-"), ("names", "-"), ("states", "-"),
        )

    def test_deeds_that_keep_boxes(self):
        desk = started()
        self.assert_answers(
            desk, ("show k", "1/2 1 by 1 1/2"), ("show z", "by 1"), ("build b a", "-"), ("show b", "1/2 by 1"), ("member m a k", "-"),
            ("behind p k h", "-"), ("share q k h 1/3", "-"), ("take t k 2 0 1/2", "-"), ("show t", "0 1/2 3/4, 1/2 4/5 12/25"),
            ("names", "a b e h k l m p q t z"),
        )
        telling, k, h = [(0, [HALF])], Box([1, 2], [2, 1]), Box([1, 1], [2])
        self.assertEqual((desk["b"], desk["m"]), (box_of(steps_of(telling)), member(telling, k)))
        self.assertEqual((desk["p"], desk["q"]), (product(k, h), share(k, h, Ratio(1, 3))))
        self.assertEqual(desk["t"], telling_of(k, [0, HALF], 2))

    def test_questions(self):
        desk = started("tell a 1/2 4/5", "telling b", "tell b 0 2")
        self.assert_answers(
            desk, ("kind a", "one"), ("kind b", "none"), ("params a", "1/2"), ("params b", "-"), ("spot a 1/3", "5/7 0"), ("soft a 1", "yes"),
            ("soft a 99/100", "no"), ("soft b 4", "yes"), ("soft b 3", "no"), ("done a k", "yes"), ("done a h", "no"), ("never h", "yes"),
            ("never l", "no"), ("worth k 1/2", "4/5"), ("worth h 1/2i", "1/2+1/4i"), ("answers k 1 0 0", "1/2 3/4 -3/8"), ("answers k", "-"),
            ("answers l 1i 1/2 0", "2i 1 0"), ("names", "a b e h k l z"), ("states", "-"), ("show e", "-"), ("worth z 0", "0"),
        )
        desk.do("untell a 1/2")
        self.assert_answers(desk, ("kind a", "many"), ("spot a 1/2", "2/5 4/25"), ("spot a 0", "1/2 0"), ("params a", "1/2"))
        middle, square = spot([(0, [HALF])], Twin(0, Ratio(1, 3)))
        self.assert_answers(desk, ("spot a 1/3i", f"{value_word(middle)} {value_word(square)}"))

    def test_long_numbers(self):
        desk = Desk()
        desk.do_all("telling a", "tell a 997/998 1/996", "tell a 1/992 1/991+1/993i")
        middle, square = spot(desk["a"], Ratio(1, 3))
        self.assertEqual(desk.do("spot a 1/3"), f"{value_word(middle)} {value_word(square)}")

    def test_claims(self):
        desk = started()
        wanted = ("true", "false", "false", "true", "true", "false", "true", "false", "true", "false")
        for command, state in zip(CLAIMS, wanted):
            _, label, rest = command.split(" ", 2)
            self.assert_answers(desk, (command, f"{label} {state}"), (f"state {label}", state), (f"claimed {label}", rest))
        self.assert_answers(
            desk, ("states", "c false, d true, i true, j false, n true, o false, s true, t false, v true, w false"),
            ("forget d", "-"), ("forget v", "-"), ("states", "c false, i true, j false, n true, o false, s true, t false, w false"),
        )
        # A label may be a name, too.
        self.assert_answers(desk, ("claim a does a", "a true"), ("state a", "true"), ("show a", "0 1/2"))

    def test_states_change(self):
        desk = started(*CLAIMS)
        self.assert_answers(
            desk, ("tell a 1/3 9/10", "c true, d false, i false, j true, s false, t true"), ("telling x", "-"),
            ("untell a 1/3", "c false, d true, i true, j false, s true, t false"), ("tell a 1/2 4/5", "i gone, j gone, n false, o true, s false, t true"),
            ("undo", "tell a 1/2 4/5"), ("states", "c false, d true, i true, j false, n true, o false, s true, t false, v true, w false"),
            ("redo", "tell a 1/2 4/5"), ("state o", "true"), ("drop a", "c gone, d gone, n gone, o gone, s gone, t gone"), ("states",
            "c gone, d gone, i gone, j gone, n gone, o gone, s gone, t gone, v true, w false"), ("telling a", "-"),
            ("tell a 0 2", "c true, d false, i false, j true, n true, o false, s false, t true"), ("drop h", "v gone, w gone"),
            ("box h 3 by 1", "v false, w true"), ("drop h", "v gone, w gone"), ("telling h", "-"), ("tell h 0 1", "-"), ("state v", "gone"),
            ("drop a", "c gone, d gone, i gone, j gone, n gone, o gone, s gone, t gone"), ("box a 1 by 1", "-"), ("state d", "gone"),
        )

    def test_no_claim_of_six_answers_or_of_a_wide_box(self):
        desk = started(*CLAIMS)
        self.assertEqual(desk.do_all("next a 0 0", "next a 0 0", "next a 0 0"), ["i false, j true", "-", "-"])
        self.assertEqual(desk.do_all("tell a 1/3 1/2", "next a 1/3 0"), ["-", "i gone, j gone"])
        desk.do_all("drop h", "box h" + " 0" * 9 + " 1 by 3")
        self.assertEqual([desk.do("state v"), desk.do("state w")], ["gone", "gone"])
        self.assert_error(TooMany, desk.do, "never h", what="degree", limit=8)

    def test_facts(self):
        # A told put in leaves cannot and louder true; one that goes out leaves does, softer and in true.
        chance = Chance(401)
        for _ in range(4):
            desk = Desk()
            desk.do_all("telling a", f"tell a 0 {value_word(chance.small())}", f"tell a 1/3 {value_word(chance.small())}")
            desk.do_all("claim c cannot a", "claim l louder a 1/2", "claim o out a 1/4 2/3", "claim d does a", "claim s softer a 1/2", "claim i in a 1/4 2/3")
            before = {label: desk.do(f"state {label}") for label in desk.labels}
            with Trial(desk):
                desk.do(f"tell a -1/2 {value_word(chance.small())}")
                self.assertTrue(all([desk.do(f"state {label}") == "true" for label in "clo" if before[label] == "true"]))
            desk.do("untell a 0")
            self.assertTrue(all([desk.do(f"state {label}") == "true" for label in "dsi" if before[label] == "true"]))


class Wrong(Looks, unittest.TestCase):
    def assert_fails(self, desk, error, command, **attributes):
        before = with_redo(desk)
        self.assert_error(error, desk.do, command, **attributes)
        self.assert_error(error, desk, command, **attributes)
        self.assertEqual(with_redo(desk), before)

    def desk(self):
        desk = started("claim x does a", "drop z", "drop l")
        desk.do_all("undo")
        return desk

    def test_commands(self):
        desk = self.desk()
        for value in NO_COMMANDS[:40] + ODD_VALUES + (1, ["undo"]):
            self.assert_error(InvalidCommand, desk.do, value, value=value)
            self.assert_error(InvalidCommand, desk, value, value=value)

    def test_taken_ones(self):
        desk = self.desk()
        for command in ("telling a", "telling k", "copy a q", "box k by 0", "build a e", "member a q q", "behind h a q", "share h q q 5", "take a q 9 0"):
            self.assert_fails(desk, NameTaken, command, name=command.split(" ")[1])
        for command in ("claim x does q", "claim x never a", "claim x softer a -1", "claim x in a 0 0"):
            self.assert_fails(desk, LabelTaken, command, label="x")

    def test_unknown_ones(self):
        desk = self.desk()
        for command, name in (
            ("tell q 0 1", "q"), ("tell k 0 1", "k"), ("next k 0 1", "k"), ("untell q 0", "q"), ("copy b q", "q"), ("copy b k", "k"), ("build b k", "k"),
            ("member b q r", "q"), ("member b a r", "r"), ("member b k a", "k"), ("member b a a", "a"), ("behind b q r", "q"), ("behind b k r", "r"),
            ("behind b k a", "a"), ("share b a q 9", "a"), ("share b k a 9", "a"), ("take b a 1 0", "a"), ("drop q", "q"), ("claim y does q", "q"),
            ("claim y does k", "k"), ("claim y never a", "a"), ("claim y softer k -1", "k"), ("show q", "q"), ("kind k", "k"), ("params q", "q"),
            ("spot k 0", "k"), ("soft q -1", "q"), ("done q r", "q"), ("done k k", "k"), ("done a a", "a"), ("never a", "a"), ("worth a 0", "a"),
            ("answers q", "q"), ("copy b b", "b"), ("member b a b", "b"),
        ):
            self.assert_fails(desk, UnknownName, command, value=name)
        for command in ("forget a", "state y", "claimed y"):
            self.assert_fails(desk, UnknownLabel, command, value=command.split(" ")[1])
        for command in ("next a 1/2 5", "untell a 1/2", "next e 1/2 0", "untell e 1/2"):
            self.assert_fails(desk, UnknownPoint, command, value=Twin(HALF))

    def test_errors_of_tellings(self):
        desk = self.desk()
        self.assert_fails(desk, InvalidTelling, "tell a 0 1", position=1)
        desk.do_all("copy b a", "tell b 1/2 0", "next b 1/2 0", "next b 1/2 0")
        self.assert_fails(desk, InvalidTelling, "tell b 1/2 0", position=2)
        self.assert_fails(desk, TooMany, "tell b 1/3 0 0 0", what="answers", limit=6)
        desk.do("next b 1/2 0")
        self.assert_fails(desk, InvalidTelling, "next b 1/2 0", position=1)
        desk.do("next b 0 0")
        self.assert_fails(desk, TooMany, "next b 0 0", what="answers", limit=6)
        self.assert_fails(desk, TooMany, "tell b 1/3 0", what="answers", limit=6)
        for command in ("build c e", "member c e k", "kind e", "params e", "spot e 0", "soft e 1", "soft e -1", "done e k"):
            self.assert_fails(desk, InvalidTelling, command, position=None)

    def test_errors_of_functions(self):
        desk = self.desk()
        desk.do_all("telling n", "tell n 0 2", "telling o", "tell o 0 1", "box p 1 by 1 -2")
        wide = [Twin(1)] * 42
        self.assert_fails(desk, InvalidCurve, "box b" + " 1" * 42 + " by 1", value=wide)
        self.assert_fails(desk, InvalidCurve, "box b by" + " 1" * 42, value=wide)
        for command in ("box b 1 by 0", "box b by 0 1"):
            self.assert_fails(desk, NoughtStart, command)
        self.assert_fails(desk, NotDoable, "build b n")
        self.assert_fails(desk, NotDoable, "spot n 0")
        for command in ("member b n k", "member b o k"):
            self.assert_fails(desk, NoChoice, command)
        self.assert_fails(desk, InvalidShare, "share b k h 2", value=Ratio(2))
        self.assert_fails(desk, InvalidShare, "share b k h -1/2", value=Ratio(-1, 2))
        self.assert_fails(desk, InvalidPoints, "take b k 9 0 0", value=[Twin(0), Twin(0)])
        self.assert_fails(desk, InvalidPoints, "take b k 1 0 1/2 1/3 1/4 1/5 1/6 1/7", value=[Twin(0)] + [Twin(Ratio(1, k)) for k in range(2, 8)])
        self.assert_fails(desk, InvalidMany, "take b k 0 0", value=0)
        self.assert_fails(desk, InvalidMany, "take b k 5 0", value=5)
        self.assert_fails(desk, TooMany, "take b p 4 0 1/2", what="answers", limit=6)
        self.assert_fails(desk, NoWorth, "take b p 1 0 1/2", point=Twin(HALF))
        self.assert_fails(desk, NoWorth, "worth p 1/2", point=Twin(HALF))
        self.assert_fails(desk, InvalidBound, "soft a -1", value=Ratio(-1))
        self.assert_fails(desk, InvalidBound, "soft n 0", value=Ratio(0))
        self.assert_fails(desk, InvalidRow, "answers k" + " 1" * 61, value=[Twin(1)] * 61)
        desk.do_all("drop l", "drop o", "box q" + " 1" * 30 + " by 2", "box r" + " 1" * 30 + " by 3 1")
        self.assert_fails(desk, TooMany, "behind b q r", what="degree", limit=40)
        self.assert_fails(desk, TooMany, "never q", what="degree", limit=8)
        # Of this free box the base would begin with 0: 1 + 1/2 times -1/2 times 4.
        desk.do_all("drop q", "drop r", "telling u", "tell u 1/2 1/2", "box v 4 by 1")
        self.assert_fails(desk, NoMember, "member b u v")

    def test_errors_of_claims(self):
        desk = self.desk()
        desk.do_all("box w" + " 0" * 9 + " 1 by 1", "telling s", "tell s 0 0 0 0 0", "tell s 1/2 0 0")
        told = [(Twin(0), [Twin(HALF)])]
        for command, claim in (
            ("claim y does e", ("does", [])), ("claim y in e 0 0", ("in", [], Twin(0), Twin(0))), ("claim y softer a -1", ("softer", told, Ratio(-1))),
            ("claim y louder a 0", ("louder", told, Ratio(0))), ("claim y in a 0 1/2", ("in", told, Twin(0), Twin(HALF))),
            ("claim y out a 0 1i", ("out", told, Twin(0), Twin(0, 1))),
        ):
            self.assert_fails(desk, InvalidClaim, command, value=claim)
        self.assert_fails(desk, InvalidClaim, "claim y never w", value=("never", desk["w"]))
        self.assert_fails(desk, InvalidClaim, "claim y in s 1/3 0", value=("in", desk["s"], Twin(Ratio(1, 3)), Twin(0)))

    def test_limits(self):
        desk = Desk()
        for k in range(12):
            desk.do_all(f"telling n{k}", f"tell n{k} 0 1", f"claim l{k} does n{k}")
        self.assertEqual((len(desk.names), len(desk.labels)), (12, 12))
        for command in ("telling x", "copy x n0", "box x by 1", "build x n0"):
            self.assert_fails(desk, TooMany, command, what="names", limit=12)
        self.assert_fails(desk, TooMany, "claim x does n0", what="labels", limit=12)
        # What is wrong besides comes first.
        self.assert_fails(desk, NoughtStart, "box x by 0")
        self.assert_fails(desk, NameTaken, "telling n3", name="n3")
        self.assert_fails(desk, UnknownName, "copy x y", value="y")
        self.assert_fails(desk, InvalidClaim, "claim x softer n0 -1", value=("softer", desk["n0"], Ratio(-1)))
        desk.do_all("drop n0", "telling x", "forget l0", "claim x does n1")

    def test_deeds(self):
        desk = Desk()
        desk.do_all(*["telling a", "drop a"] * 149, "telling a")
        self.assertEqual(len(desk), 299)
        self.assertEqual(desk.do("tell a 0 0"), "-")
        for command in ("tell a 1/2 1", "telling b", "drop a"):
            self.assert_fails(desk, TooMany, command, what="deeds", limit=300)
        self.assert_fails(desk, InvalidTelling, "tell a 0 0", position=1)
        self.assertEqual([desk.do("kind a"), desk.do("undo"), desk.do("tell a 0 1"), len(desk)], ["many", "tell a 0 0", "-", 300])
        self.assertEqual((desk.do("undo"), desk.do("redo"), len(desk)), ("tell a 0 1", "tell a 0 1", 300))
        self.assertEqual(len(Desk.again(desk.lines())), 300)

    def test_limits_in_their_sequence(self):
        desk = Desk()
        desk.do_all(*[f"telling n{k}" for k in range(12)], *["tell n0 0 1", "untell n0 0"] * 144)
        self.assertEqual(len(desk), 300)
        self.assert_fails(desk, TooMany, "telling x", what="names", limit=12)
        self.assert_fails(desk, TooMany, "drop n1", what="deeds", limit=300)

    def test_nothing_to_undo_or_redo(self):
        desk = Desk()
        self.assert_fails(desk, NothingToUndo, "undo")
        self.assert_fails(desk, NothingToRedo, "redo")
        desk.do("telling a")
        self.assert_fails(desk, NothingToRedo, "redo")
        desk.do("undo")
        self.assert_fails(desk, NothingToUndo, "undo")


class Undone(Looks, unittest.TestCase):
    LINES = START + (
        "claim d does a", "tell a 1/2 1/2", "next a 1/2 0", "untell a 0", "copy b a", "build c a", "member m b k", "behind p k h",
        "share q k h 1/3", "take t k 2 0 1/2", "drop b", "claim o only t", "forget d", "drop k", "tell a 0 2",
    )

    def test_each_kind_of_deed(self):
        desk = Desk()
        states = [seen(desk)]
        for line in self.LINES:
            self.assertTrue(is_deed(line))
            desk.do(line)
            states.append(seen(desk))
        for line in reversed(self.LINES):
            self.assertEqual(seen(desk), states.pop())
            self.assertEqual(desk.do("undo"), line)
            again = desk.copy()
            self.assertEqual(again.do("redo"), line)
        self.assertEqual(seen(desk), states.pop())
        for line in self.LINES:
            self.assertEqual(desk.do("redo"), line)
        self.assertEqual(desk.lines(), list(self.LINES))

    def test_a_deed_between(self):
        desk = started()
        desk.do_all("undo", "undo", "names", "show a", "redo")
        self.assertEqual(desk.do("redo"), "telling e")
        desk.do_all("undo", "telling f")
        self.assert_error(NothingToRedo, desk.do, "redo")
        # What fails, is asked or attached is no deed.
        desk.do_all("undo")
        self.assert_error(NameTaken, desk.do, "telling a", name="a")
        self.assert_error(CommandFailed, desk.do_all, "telling g", "telling g", position=1)
        desk.do("kind a")
        self.assertEqual(desk.do("redo"), "telling f")

    def test_again(self):
        desk = started(*CLAIMS)
        desk.do_all("tell a 1/3 1/2", "undo", "undo")
        other = Desk.again(desk.lines())
        self.assertEqual(seen(other), seen(desk))
        self.assert_error(NothingToRedo, other.do, "redo")
        self.assertEqual(seen(Desk.again(lines=tuple(desk.lines()))), seen(desk))
        self.assertEqual(seen(Desk.again([])), seen(Desk()))

    def test_again_wrong(self):
        for value in ODD_VALUES + ("telling a", 1):
            position = 0 if isinstance(value, (list, tuple)) else None
            self.assert_error(InvalidLines, Desk.again, value, position=position)
        for lines, position in (
            (["telling a", "undo"], 1), (["names"], 0), (["telling a", "telling a", "x"], 2), (["telling a", None], 1), (["drop a", "kind a"], 1),
        ):
            self.assert_error(InvalidLines, Desk.again, lines, position=position)
        for lines, position, cause in (
            (["drop a"], 0, UnknownName), (["telling a", "telling a"], 1, NameTaken), (["telling a"] + ["tell a 0 1"] * 2, 2, InvalidTelling),
        ):
            self.assert_error(CommandFailed, Desk.again, lines, position=position)
            try:
                Desk.again(lines)
            except CommandFailed as error:
                self.assertIs(error.__cause__.__class__, cause)
        self.assert_error(CommandFailed, Desk.again, ["telling a", "drop a"] * 150 + ["telling a"], position=300)


class Together(Looks, unittest.TestCase):
    def test_do_all(self):
        desk = Desk()
        found = desk.do_all("telling a", "tell a 0 1/2", "kind a", "undo", "redo", "names")
        self.assertEqual(found, ["-", "-", "many", "tell a 0 1/2", "tell a 0 1/2", "a"])
        self.assertEqual(desk.do_all(), [])

    def test_if_one_fails_none_has_an_effect(self):
        desk = started("claim x does a")
        desk.do("undo")
        before = with_redo(desk)
        for commands, position, cause in (
            (("telling b", "tell b 0 1", "drop q"), 2, UnknownName), (("redo", "redo"), 1, NothingToRedo), ((None,), 0, InvalidCommand),
            (("undo", "telling b", "redo"), 2, NothingToRedo), (("drop a", "untell e 0"), 1, UnknownPoint), (("telling b", 1), 1, InvalidCommand),
            (("telling b", "box c by 0"), 1, NoughtStart), (("telling b", "kind b"), 1, InvalidTelling), (("telling b", "box c by 1", "never c", "state x"), 3, UnknownLabel),
            (tuple(f"telling n{k}" for k in range(9)), 6, TooMany),
        ):
            for call in (desk.do_all, desk.attempt):
                self.assert_error(CommandFailed, call, *commands, position=position)
                try:
                    call(*commands)
                except CommandFailed as error:
                    self.assertIs(error.__cause__.__class__, cause)
                self.assertEqual(with_redo(desk), before)

    def test_attempt(self):
        desk = started("claim x does a")
        desk.do("undo")
        before = with_redo(desk)
        self.assertEqual(desk.attempt("redo", "tell a 1/2 2", "state x", "drop a", "names"), ["claim x does a", "x false", "false", "x gone", "e h k l z"])
        self.assertEqual(with_redo(desk), before)
        self.assertEqual(desk.attempt(), [])

    def test_trial(self):
        desk = started("claim x does a")
        desk.attach("x", ([], HALF))
        desk.do("undo")
        desk.do("redo")
        desk.do_all("telling f", "undo")
        before = with_redo(desk)
        trial = Trial(desk)
        for _ in range(2):
            with trial as held:
                self.assertIs(held, desk)
                held.do_all("drop a", "undo", "tell a 1/2 1/2", "forget x", "claim x cannot a", "undo")
                self.assertNotEqual(with_redo(desk), before)
            self.assertEqual(with_redo(desk), before)
        with self.assertRaises(UnknownName):
            with Trial(desk):
                desk.do("drop a")
                desk.do("drop a")
        self.assertEqual(with_redo(desk), before)
        with self.assertRaises(KeyError):
            with Trial(desk=desk) as held:
                held.attach("x", ([(0, HALF)], 1))
                held.do_all(*["undo"] * len(held))
                raise KeyError("x")
        self.assertEqual(with_redo(desk), before)
        self.assertTrue(desk.fits("x"))

    def test_trials_in_one_another(self):
        desk = started()
        before = seen(desk)
        with Trial(desk):
            desk.do("telling b")
            inner = seen(desk)
            with Trial(desk):
                desk.do("telling c")
            self.assertEqual(seen(desk), inner)
        self.assertEqual(seen(desk), before)

    def test_a_trial_serves_from_when_the_block_begins(self):
        desk = started()
        trial = Trial(desk)
        desk.do("telling b")
        before = seen(desk)
        with trial:
            desk.do("drop b")
        self.assertEqual(seen(desk), before)

    def test_tried(self):
        desk = started()
        before = with_redo(desk)
        self.assertEqual(tried(desk, lambda held: held.do_all("tell a 1/2 2", "kind a")), ["-", "none"])
        self.assertIs(tried(desk=desk, action=lambda held: held), desk)
        self.assertEqual(with_redo(desk), before)
        with self.assertRaises(ZeroDivisionError):
            tried(desk, lambda held: held.do("drop a") and 1 // 0)
        self.assertEqual(with_redo(desk), before)

    def test_copies(self):
        desk = started("claim x does a", "telling f")
        desk.attach("x", ([], HALF))
        desk.do("undo")
        other = desk.copy()
        self.assertIs(other.__class__, Desk)
        self.assertIsNot(other, desk)
        self.assertEqual(with_redo(other), with_redo(desk))
        before = with_redo(desk)
        other.do_all("drop a", "forget x", "undo", "undo", "undo")
        self.assertEqual(with_redo(desk), before)
        before = with_redo(other)
        desk.do_all("redo", "drop a")
        self.assertEqual(with_redo(other), before)


class Held(Looks, unittest.TestCase):
    def test_names_and_things(self):
        desk = started("claim y does a", "claim b never h")
        self.assertEqual((desk.names, desk.labels, len(desk)), (["a", "e", "h", "k", "l", "z"], ["b", "y"], 9))
        self.assertEqual((desk["a"], desk["e"], desk["h"]), ([(Twin(0), [Twin(HALF)])], [], Box([1, 1], [2])))
        for name in desk.names:
            self.assert_answer(True, name in desk)
        for value in ODD_VALUES + ("y", "b", "q", "A", 1, ["a"], ("a",)):
            self.assert_answer(False, value in desk)
            self.assert_error(UnknownName, desk.__getitem__, value, value=value)
        self.assertEqual(len(Desk()), 0)

    def test_what_is_returned_is_new(self):
        desk = started("claim y does a")
        before = seen(desk)
        desk.names.append("q")
        desk.labels.append("q")
        desk.lines().append("telling q")
        desk["a"].append(1)
        desk["a"][0][1].append(1)
        desk.claim_of("y")[1].append(1)
        desk.claim_of("y")[1][0][1].append(1)
        self.assertEqual(seen(desk), before)
        held = lists_in(desk["a"]) + lists_in(desk["a"]) + lists_in(desk.claim_of("y"))
        self.assertEqual(len(held), len({id(one) for one in held}))

    def test_claim_of(self):
        desk = started(*CLAIMS)
        told = [(Twin(0), [Twin(HALF)])]
        for label, claim in (
            ("d", ("does", told)), ("n", ("notonly", told)), ("i", ("in", told, Twin(HALF), Twin(Ratio(4, 5)))), ("t", ("louder", told, Ratio(1, 4))),
            ("v", ("never", Box([1, 1], [2]))),
        ):
            found = desk.claim_of(label=label)
            self.assertIs(found.__class__, tuple)
            self.assertEqual(found, claim)
        desk.do("tell a 1/2 1/2")
        self.assertIsNone(desk.claim_of("i"))
        self.assertEqual(desk.claim_of("d"), ("does", told + [(Twin(HALF), [Twin(HALF)])]))
        desk.do("drop a")
        self.assertIsNone(desk.claim_of("d"))
        for value in ODD_VALUES + ("q", "a", 1):
            self.assert_error(UnknownLabel, desk.claim_of, value, value=value)
            self.assert_error(UnknownLabel, desk.fits, value, value=value)
            self.assert_error(UnknownLabel, desk.attach, value, None, value=value)

    def test_states_are_those_of_the_claims(self):
        chance = Chance(402)
        desk = started(*CLAIMS)
        commands = (
            "tell a 1/3 1/2", "tell a 1/2 1/4", "untell a 0", "tell a 0 1/2", "next a 0 1/4", "untell a 1/3", "untell a 1/2", "drop a", "telling a",
            "undo", "undo", "redo", "drop h", "box h 1 by 1 1/2", "copy h a", "next a 1/3 0", "forget d", "claim d does a",
        )
        for _ in range(60):
            before = {label: desk.do(f"state {label}") for label in desk.labels}
            try:
                command = chance.pick(commands)
                answer = desk.do(command)
            except (UnknownName, UnknownPoint, UnknownLabel, NameTaken, LabelTaken, InvalidTelling, InvalidClaim, NothingToRedo, NothingToUndo, TooMany):
                continue
            changed = []
            for label in desk.labels:
                claim = desk.claim_of(label)
                state = "gone" if claim is None else "true" if is_true(claim) else "false"
                self.assertEqual(desk.do(f"state {label}"), state)
                if before.get(label) != state:
                    changed.append(f"{label} {state}")
            if command not in ("undo", "redo"):
                self.assertEqual(answer, ", ".join(changed) or "-")
        self.assertEqual(seen(Desk.again(desk.lines())), seen(desk))


class PapersKept(Looks, unittest.TestCase):
    def test_papers_of_each_claim(self):
        for by in ((), ("tell a 1/3 9/10",), ("tell a 1/3 1/2",)):
            desk = started(*by, *CLAIMS)
            for label in desk.labels:
                self.assert_answer(False, desk.fits(label))
                claim = desk.claim_of(label)
                paper = paper_of(claim if is_true(claim) else contrary(claim))
                self.assertIsNone(desk.attach(label, paper))
                self.assert_answer(True, desk.fits(label))

    def test_as_things_are_now(self):
        desk = started("claim d does a", "claim c cannot a")
        desk.attach("d", ([], HALF))
        desk.attach(label="c", paper=([(0, HALF)], 1))
        lines = desk.lines()
        self.assertEqual([desk.fits("d"), desk.fits("c")], [True, True])
        desk.do("tell a 1/3 1/2")
        # The one box still does it, the other one no more.
        self.assertEqual([desk.fits("d"), desk.fits("c")], [True, False])
        desk.do("tell a 1/2 9/10")
        self.assertEqual([desk.fits("d"), desk.fits("c")], [False, False])
        desk.do_all("undo", "undo")
        self.assertEqual([desk.fits("d"), desk.fits("c"), desk.lines()], [True, True, lines])
        desk.do("drop a")
        self.assertEqual([desk.fits("d"), desk.fits("c")], [False, False])
        desk.do_all("telling a", "tell a 0 1/2")
        self.assertEqual([desk.fits(label="d"), desk.fits("c")], [True, True])

    def test_of_what_it_was_kept_for(self):
        # One and the same weights are a paper of a claim now, later of nothing.
        desk = started("tell a 1/2 9/10", "claim d does a", "claim c cannot a")
        weights = [Ratio(-11, 20), Ratio(3, 4)]
        desk.attach("d", weights)
        desk.attach("c", weights)
        self.assertEqual([desk.fits("d"), desk.fits("c")], [True, True])
        desk.do_all("untell a 1/2", "tell a 1/2 4/5")
        self.assertEqual([desk.fits("d"), desk.fits("c")], [False, False])

    def test_for_its_words(self):
        desk = started("claim x does a")
        desk.attach("x", ([], HALF))
        desk.do_all("copy b a", "forget x", "claim x does b")
        self.assert_answer(False, desk.fits("x"))
        desk.do_all("undo", "undo")
        self.assert_answer(True, desk.fits("x"))
        desk.do_all("forget x", "claim x does a")
        self.assert_answer(True, desk.fits("x"))
        desk.do_all("forget x", "claim x cannot a")
        self.assert_answer(False, desk.fits("x"))

    def test_in_the_place_of_the_one_before(self):
        desk = started("claim x does a")
        desk.attach("x", ([], HALF))
        desk.attach("x", ([(0, HALF)], 1))
        desk.do("tell a 1/2 4/5")
        self.assert_answer(True, desk.fits("x"))
        desk.attach("x", ([(0, HALF)], 1))
        desk.do("undo")
        self.assert_answer(True, desk.fits("x"))

    def test_it_is_no_deed(self):
        desk = started("claim x does a", "telling f")
        desk.do("undo")
        before = with_redo(desk)[0][:-1]
        desk.attach("x", ([], HALF))
        self.assertEqual(with_redo(desk)[0][:-1], before)
        self.assertEqual(desk.do("redo"), "telling f")
        self.assert_answer(True, desk.fits("x"))

    def test_what_is_attached_is_copied(self):
        desk = started("claim x does a")
        steps = [(0, HALF)]
        desk.attach("x", (steps, 1))
        steps.append(5)
        self.assert_answer(True, desk.fits("x"))

    def test_wrong(self):
        desk = started("claim x does a", "claim v never h", "claim y cannot a")
        for label in ("x", "v", "y"):
            for value in ODD_VALUES + ([], [0], [1], ([], 0), (([], 0), [0]), ([], 2), Twin(0), 0):
                self.assert_error(InvalidPaper, desk.attach, label, value, value=value)
                self.assert_answer(False, desk.fits(label))
        desk.attach("v", ())
        desk.attach("x", ([], HALF))
        self.assert_error(InvalidPaper, desk.attach, "x", ([], Ratio(1, 3)), value=([], Ratio(1, 3)))
        self.assert_answer(True, desk.fits("x"))
        desk.do_all("drop a", "drop h")
        self.assert_error(InvalidPaper, desk.attach, "x", ([], HALF), value=([], HALF))
        self.assert_error(InvalidPaper, desk.attach, "v", (), value=())


if __name__ == "__main__":
    unittest.main()
