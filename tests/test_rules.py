"""The conventions (point 2), for each function and method at once."""

import unittest

from neverlouder import (
    barred, bars, basics, beginnings, bounds, boxes, built, choices, claims, commands, curves, distances, family, forms,
    joined, judged, keepers, made, members, played, ranks, ratios, rims, series, softest, spots, squares, steps, tables,
    texts, tones, turns, twins, within,
)
from neverlouder.boxes import Box
from neverlouder.errors import (
    InvalidBound, InvalidBox, InvalidClaim, InvalidCurve, InvalidLinks, InvalidMany, InvalidNumber, InvalidNumbers,
    InvalidPoint, InvalidPoints, InvalidPositions, InvalidRatio, InvalidRow, InvalidRows, InvalidShare, InvalidSteps,
    InvalidTable, InvalidTelling, InvalidText, InvalidThing, InvalidTurn, InvalidUnit, InvalidWeights,
)
from neverlouder.ratios import Ratio
from neverlouder.turns import Turn
from neverlouder.twins import Twin
from tests.helper import ODD_VALUES, Looks, as_tuples, lists_in

HALF = Ratio(1, 2)
CURVE = [1, HALF, 0, Twin(2, -1), 0]
OTHER = [Twin(1, 1), 0, 3]
TABLE = [[2, Twin(0, 1)], [Twin(0, -1), Ratio(1)]]
LOW = [[1, Twin(2)], [2, 1]]
BOX = Box(CURVE, OTHER)
SOFT = Box([1, 2], [2, 1])
LATE = Box([0, 1, Twin(0, 1)], [3])
TELLING = [(0, [HALF, Twin(0, Ratio(1, 4))]), (Ratio(1, 3), (Twin(HALF, Ratio(1, 10)),))]
ONE_TOLD = [(0, [HALF])]
TWO = [(0, [0]), (HALF, [Ratio(1, 3)])]
STEPS = ([(0, HALF), (HALF, 0)], Twin(0, 1))
TURN = Turn(Twin(0, 1), HALF)
KEEPER = Box([0, 1, 2], [2, 1])

# For each kind of parameter: a value that will do, its error, and odd values that may stand there all the same.
KINDS = {
    "number": (Twin(HALF, 1), InvalidNumber, []),
    "ratio": (Ratio(2, 3), InvalidRatio, []),
    "many": (4, InvalidMany, []),
    "point": (Twin(0, HALF), InvalidPoint, []),
    "curve": (CURVE, InvalidCurve, []),
    "other": (OTHER, InvalidCurve, []),
    "top": (CURVE, InvalidCurve, []),
    "base": (OTHER, InvalidCurve, []),
    "row": ([1, 0, Twin(1, 2)], InvalidRow, []),
    "box": (BOX, InvalidBox, []),
    "table": (TABLE, InvalidTable, [[[1]]]),
    "other_table": (LOW, InvalidTable, [[[1]]]),
    "weights": ([1, Twin(1, HALF)], InvalidWeights, []),
    "rows": ([[1, 2], [Twin(0, 1), 0], [0, 0]], InvalidRows, []),
    "positions": ([1, 0], InvalidPositions, []),
    "ratios": ([1, HALF, 3], None, []),
    "numbers": ([1, HALF, Twin(0, 1)], None, []),
    "value": ([(2, [1, Twin(0, -HALF)]), (HALF, [0, 1])], None, []),
    "times": (2, InvalidMany, []),
    "telling": (TELLING, InvalidTelling, []),
    "one_telling": (ONE_TOLD, InvalidTelling, []),
    "two_telling": (TWO, InvalidTelling, []),
    "told_weights": ([1, HALF, Twin(0, 1)], InvalidWeights, []),
    "led_weights": ([1, Twin(0, 1)], InvalidWeights, []),
    "points": ([0, Twin(0, HALF)], InvalidPoints, []),
    "few": (2, InvalidMany, []),
    "soft_box": (SOFT, InvalidBox, []),
    "free": (SOFT, InvalidBox, []),
    "steps": (STEPS, InvalidSteps, []),
    "small_number": (Twin(0, HALF), InvalidNumber, []),
    "told_point": (0, InvalidPoint, []),
    "half_point": (HALF, InvalidPoint, []),
    "rim_number": (Ratio(4, 5), InvalidNumber, []),
    "other_point": (HALF, InvalidPoint, []),
    "other_number": (Twin(0, 1), InvalidNumber, []),
    "goal": (0, InvalidPoint, []),
    "other_goal": (Twin(0, HALF), InvalidPoint, []),
    "unit": (Twin(0, -1), InvalidUnit, []),
    "turn": (TURN, InvalidTurn, []),
    "part": (Ratio(2, 3), InvalidRatio, []),
    "beginning": ([HALF, Ratio(1, 4)], InvalidRow, []),
    "soft_numbers": ([HALF, Twin(0, HALF)], InvalidNumbers, []),
    "last": (Twin(0, 1), InvalidNumber, []),
    "bound": (Ratio(3, 2), InvalidBound, []),
    "loud_steps": (([(0, 1), (HALF, 0)], Twin(0, 1)), InvalidSteps, []),
    "real_curve": ([-2, HALF, 0, 1, 0], InvalidCurve, []),
    "other_box": (LATE, InvalidBox, []),
    "share": (Ratio(2, 5), InvalidShare, []),
    "links": ([(0, HALF), (HALF, Twin(0, HALF))], InvalidLinks, []),
    "other_telling": ([(0, [1, 2]), (Ratio(1, 3), [Twin(0, 1)])], InvalidTelling, []),
    "steady_curve": ([3, HALF, 0, Twin(1, -1), 0], InvalidCurve, []),
    "some_points": ([0, Twin(0, HALF), 0], InvalidPoints, []),
    "keeper": (KEEPER, InvalidBox, []),
    "one_kind": ([(0, [0]), (HALF, [HALF])], InvalidTelling, []),
    "text_steps": (STEPS, InvalidThing, []),
    "text_turn": (TURN, InvalidThing, []),
    "text_weights": ([1, HALF, Twin(0, 1)], InvalidThing, [[1, HALF, Twin(0, 1)]]),
    "thing": (STEPS, InvalidThing, []),
    "claim": (("in", TELLING, HALF, Twin(0, HALF)), InvalidClaim, []),
    "value_text": ("1/2-1i", InvalidText, ["1", "1/2"]),
    "any_text": ("turn 1i 1/2", InvalidText, ["1", "1/2"]),
    "telling_text": ("telling\ntold 0 1/2 1i\ntold 1/2 1\nend", InvalidText, []),
    "box_text": ("box\ntop 1 2\nbase 2 1\nend", InvalidText, []),
    "steps_text": ("steps\nstep 0 1/2\nlast 1\nend", InvalidText, []),
    "turn_text": ("turn 1i 1/2", InvalidText, []),
    "weights_text": ("weights 1 0 1/2-1i", InvalidText, []),
}
# What a kind of parameter is called, if not as its kind.
NAMES = {
    "other_table": "other", "one_telling": "telling", "two_telling": "telling", "told_weights": "weights",
    "led_weights": "weights", "few": "many", "soft_box": "box", "small_number": "number", "told_point": "point",
    "half_point": "point", "rim_number": "number", "unit": "number", "part": "ratio", "beginning": "row",
    "soft_numbers": "numbers", "loud_steps": "steps", "real_curve": "curve", "other_box": "other", "share": "ratio",
    "other_telling": "other", "steady_curve": "curve", "some_points": "points", "keeper": "box", "one_kind": "telling",
    "text_steps": "steps", "text_turn": "turn", "text_weights": "weights", "value_text": "text", "any_text": "text",
    "telling_text": "text", "box_text": "text", "steps_text": "text", "turn_text": "text", "weights_text": "text",
}

ONE = Ratio(3, 4)
TWIN = Twin(1, HALF)
CALLS = (
    (basics.is_integer, "value"), (basics.is_count, "value"), (ratios.is_ratio, "value"), (twins.is_value, "value"),
    (twins.is_point, "value"), (twins.is_unit, "value"), (curves.is_curve, "value"), (tables.is_table, "value"),
    (ONE.over, "ratio"), (ONE.unsigned, ""), (ONE.is_below, "ratio"), (ONE.is_at_most, "ratio"),
    (Ratio.sum_of, "ratios"), (twins.as_twin, "number"), (TWIN.over, "number"), (TWIN.mirror, ""), (TWIN.size, ""),
    (TWIN.power, "many"), (Twin.total, "numbers"),
    (curves.told, "curve"), (curves.degree, "curve"), (curves.leading, "curve"), (curves.plus, "curve other"),
    (curves.minus, "curve other"), (curves.times, "curve other"), (curves.scaled, "curve number"),
    (curves.divided, "curve other"), (curves.common, "curve other"), (curves.worth_at, "curve number"),
    (curves.derived, "curve"), (curves.moved, "curve number"), (curves.mirrored, "curve"),
    (curves.turned, "curve many"), (series.quotient_series, "curve other many"),
    (series.quotient_at, "curve other number many"), (series.product_series, "curve other many"),
    (series.series_at, "curve number many"),
    (tables.form, "table weights"), (tables.plus_tables, "table other_table"),
    (tables.entry_product, "table other_table"), (tables.times_table, "table ratio"), (tables.shared, "table rows"),
    (tables.picked, "table positions"), (squares.is_never_below, "table"), (squares.squares, "table"),
    (squares.is_squares, "table value"), (bars.bar, "table"), (bars.is_bar, "table value"),
    (bars.least_part, "table"), (ranks.signs, "table"), (ranks.rank, "table"), (ranks.determinant, "table"),
    (ranks.nothing, "table"),
    (Box, "top base"), (BOX.curves, ""), (BOX.worth, "point"), (BOX.around, "point many"), (BOX.knock, "many"),
    (played.answers, "box row"), (played.force, "row"), (played.is_softer, "box row"),
    (tones.tone, "point many times"), (tones.force_table, "telling"), (made.made_table, "telling"),
    (made.mixture_in, "telling told_weights"), (made.mixture_out, "telling told_weights"),
    (made.does, "box telling"), (made.telling_of, "box points few"), (made.is_doable, "telling"),
    (made.kind, "telling"), (steps.sequence, "telling"), (steps.step, "telling"), (steps.parameters, "telling"),
    (steps.stepped, "telling few"), (steps.step_box, "soft_box point"), (steps.step_back, "box point small_number"),
    (built.is_steps, "value"), (built.box_of, "steps"), (built.steps_of, "telling"), (built.shows, "telling value"),
    (barred.rest_table, "telling"), (barred.leading_table, "telling"), (barred.led_back, "telling led_weights"),
    (barred.bar_of, "telling"), (barred.is_bar_of, "telling value"), (family.family, "telling"),
    (family.free_at, "telling point number"), (members.member, "telling free"),
    (members.free_of, "one_telling soft_box"), (members.only_box, "telling"), (spots.spot, "telling point"),
    (spots.next_spot, "telling told_point"), (spots.is_in_spot, "telling point number"),
    (spots.is_on_rim, "telling point number"), (spots.on_rim_box, "one_telling half_point rim_number"),
    (spots.goes_with, "telling point number other_point other_number"), (Turn, "unit point"), (TURN.parts, ""),
    (TURN.at, "small_number"), (TURN.back, ""), (TURN.behind, "turn"), (turns.box_put, "box turn"),
    (turns.box_moved, "box turn"), (turns.moved_telling, "telling turn"), (turns.answers_moved, "telling turn"),
    (turns.turn_by, "told_point other_point goal other_goal"), (distances.distance, "point other_point"),
    (distances.round_spot, "point part"), (distances.two_let, "two_telling"), (distances.far_pair, "telling"),
    (distances.lone_spots, "telling point"), (beginnings.knocks_let, "beginning"),
    (beginnings.schur_of, "beginning"), (beginnings.schur, "box few"), (beginnings.from_schur, "soft_numbers last"),
    (beginnings.next_knock, "beginning"), (bounds.made_table_within, "telling bound"),
    (bounds.is_doable_within, "telling bound"), (bounds.bar_within, "telling bound"),
    (bounds.is_bar_within, "telling bound value"), (within.is_steps_within, "bound value"),
    (within.box_of_within, "bound loud_steps"), (within.steps_within, "telling bound"),
    (within.box_within, "telling bound"), (within.shows_within, "telling bound value"),
    (within.spot_within, "telling point bound"), (within.is_in_spot_within, "telling point bound number"),
    (softest.shown_by, "telling told_weights"), (softest.softest_between, "telling many"),
    (softest.is_softest, "telling bound"), (choices.is_doable_lot, "telling value"),
    (choices.greatest_lots, "telling"), (choices.fewest_out, "telling"), (rims.rim_place, "ratio"),
    (rims.rim_curve, "box"), (rims.real_roots, "real_curve"), (rims.is_nowhere_below, "real_curve"),
    (judged.is_steady, "curve"), (judged.is_never_louder, "box"), (judged.loud_point, "box"),
    (judged.is_loud_point, "box value"), (judged.is_strictly_softer, "soft_box"), (judged.touches, "box"),
    (joined.product, "box other_box"), (joined.share, "box other_box share"), (joined.delayed, "box many"),
    (joined.put_in, "box other_box"), (joined.led, "links box"),
    (joined.product_telling, "telling other_telling"), (joined.share_telling, "telling other_telling share"),
    (keepers.is_keeper, "box"), (keepers.keeper, "steady_curve unit"), (keepers.keeper_of, "some_points unit"),
    (keepers.noughts, "keeper"), (keepers.without_nought, "keeper told_point"), (keepers.keeper_by, "one_kind"),
    (texts.value_word, "number"), (texts.telling_text, "telling"), (texts.box_text, "box"),
    (texts.steps_text, "text_steps"), (texts.turn_text, "text_turn"), (texts.weights_text, "text_weights"),
    (texts.text_of, "thing"), (forms.read_value, "value_text"), (forms.read_telling, "telling_text"),
    (forms.read_box, "box_text"), (forms.read_steps, "steps_text"), (forms.read_turn, "turn_text"),
    (forms.read_weights, "weights_text"), (forms.read, "any_text"), (claims.words, ""), (claims.is_claim, "value"),
    (claims.is_true, "claim"), (claims.contrary, "claim"), (claims.paper_of, "claim"),
    (claims.is_paper_of, "claim value"), (commands.is_name, "value"), (commands.is_command, "value"),
    (commands.is_deed, "value"),
)


def good(kinds):
    return [KINDS[kind][0] for kind in kinds.split()]


def name_of(kind):
    return NAMES.get(kind, kind)


def with_tuples(given):
    """Tuples for lists."""
    return [as_tuples(one) for one in given]


class Calls(Looks, unittest.TestCase):
    def test_by_name(self):
        for call, kinds in CALLS:
            names = {name_of(kind): KINDS[kind][0] for kind in reversed(kinds.split())}
            self.assertEqual(call(**names), call(*good(kinds)))

    def test_tuples_for_lists(self):
        for call, kinds in CALLS:
            found = call(*with_tuples(good(kinds)))
            self.assertEqual(found, call(*good(kinds)))
            self.assertIs(found.__class__, call(*good(kinds)).__class__)

    def test_nothing_passed_is_changed(self):
        for call, kinds in CALLS:
            given = good(kinds)
            before = repr(given)
            call(*given)
            self.assertEqual(repr(given), before)

    def test_lists_are_new(self):
        for call, kinds in CALLS:
            given = good(kinds)
            first, second = call(*given), call(*given)
            self.assertEqual(first, second)
            held = [id(one) for one in lists_in(given) + lists_in(first) + lists_in(second)]
            self.assertEqual(len(held), len(set(held)), (call, kinds))

    def test_told_values_too(self):
        told = {"curve": curves.told(CURVE), "other": curves.told(OTHER), "table": tables.plus_tables(TABLE, [[0, 0]] * 2)}
        for call in (curves.told, curves.moved, curves.plus, curves.common, tables.picked, ranks.nothing):
            kinds = dict(CALLS)[call].split()
            given = [told.get(kind, KINDS[kind][0]) for kind in kinds]
            before = repr(given)
            found = call(*given)
            held = [id(one) for one in lists_in(given) + lists_in(found)]
            self.assertEqual((repr(given), len(held)), (before, len(set(held))))


class Wrong(Looks, unittest.TestCase):
    def test_first_bad_one_decides(self):
        for call, kinds in CALLS:
            names = kinds.split()
            for at, kind in enumerate(names):
                if KINDS[kind][1] is not None:
                    self.assert_first(call, names, at)

    def assert_first(self, call, names, at):
        _, error, fine = KINDS[names[at]]
        ahead = [KINDS[kind][0] for kind in names[:at]]
        for value in ODD_VALUES:
            if value not in fine:
                right = [KINDS[kind][0] for kind in names[at + 1:]]
                # The odd lists begin with what is no told, too.
                at_first = 0 if isinstance(value, (list, tuple)) else None
                held = {"position": at_first} if error is InvalidTelling else {"value": value}
                held = {"line": 1} if error is InvalidText else held
                self.assert_error(error, call, *ahead, value, *right, **held)
                self.assert_error(error, call, *ahead, value, *[None for _ in right], **held)

    def test_truths_are_no_numbers(self):
        calls = (
            (InvalidCurve, curves.told, [True]), (InvalidCurve, curves.told, [1, False]), (InvalidRatio, Ratio, True),
            (InvalidRatio, Twin, False), (InvalidNumber, twins.as_twin, True), (InvalidTable, ranks.rank, [[True]]),
            (InvalidRow, played.force, [0, True]), (InvalidMany, BOX.knock, True), (InvalidPoint, BOX.worth, False),
        )
        for error, call, value in calls:
            self.assert_error(error, call, value, value=value)

    def test_a_list_is_told_whole(self):
        for value in ([1, 2, None, True], (1, "2", 3)):
            self.assert_error(InvalidCurve, curves.told, value, value=value)
            self.assert_error(InvalidRow, played.force, value, value=value)


if __name__ == "__main__":
    unittest.main()
