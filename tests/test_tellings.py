"""Tellings (point 8), for each function that is told one."""

import unittest

from neverlouder import (
    barred, bounds, built, distances, family, made, members, spots, steps, tones, turns,
)
from neverlouder.boxes import Box
from neverlouder.errors import InvalidBox, InvalidTelling, TooMany
from neverlouder.ratios import Ratio
from neverlouder.twins import Twin
from tests.helper import NEAR_UNITS, ODD_VALUES, UNITS, Looks

HALF = Ratio(1, 2)
BOX = Box([HALF], [1])
# Each function with values behind the telling that will do.
CALLS = (
    (tones.force_table,), (made.made_table,), (made.mixture_in, [1]), (made.mixture_out, [1]), (made.is_doable,),
    (made.kind,), (steps.sequence,), (steps.step,), (steps.parameters,), (steps.stepped, 0), (built.steps_of,),
    (built.shows, None), (barred.rest_table,), (barred.leading_table,), (barred.led_back, []), (barred.bar_of,),
    (barred.is_bar_of, None), (family.family,), (family.free_at, 0, 0), (members.member, BOX),
    (members.free_of, BOX), (members.only_box,), (spots.spot, 0), (spots.next_spot, 0), (spots.is_in_spot, 0, 0),
    (spots.is_on_rim, 0, 0), (spots.on_rim_box, 0, 0), (spots.goes_with, 0, 0, HALF, 0),
    (turns.moved_telling, turns.Turn(1, 0)), (turns.answers_moved, turns.Turn(1, 0)), (distances.two_let,),
    (distances.far_pair,), (distances.lone_spots, 0), (bounds.made_table_within, 1), (bounds.is_doable_within, 1),
    (bounds.bar_within, 1), (bounds.is_bar_within, 1, None),
)
GOOD = (0, [HALF])
NO_TOLDS = ODD_VALUES + (
    [0, [1]], (0,), (0, [1], 1), (0, []), (0, 1), (0, "1"), (0, {1}), (0, {1: 1}), (0, [1] * 5), (0, [True]),
    (0, [1, None]), (True, [1]), (None, [1]), ("0", [1]), (1, [1]), (Ratio(-3, 2), [1]), ([0], [1]),
)
TOO_MANY = (
    [(0, [1] * 4), (HALF, [1] * 3)], [(Ratio(1, k), [0]) for k in range(2, 9)],
    [(Ratio(1, k), (0, 0, 1, 2)) for k in range(2, 60)], ((0, [2] * 4), (HALF, [0]), (Twin(0, HALF), [0, 0])),
)


class Tellings(Looks, unittest.TestCase):
    def assert_wrong(self, telling, position):
        """The telling's error comes ahead of those of what is behind it."""
        for call, *behind in CALLS:
            for right in (behind, [None for _ in behind]):
                if position is None:
                    self.assert_error(InvalidTelling, call, telling, *right, position=None)
                else:
                    self.assert_error(InvalidTelling, call, telling, *right, position=position)

    def test_no_list(self):
        for value in ODD_VALUES + ([], (), "ab", {0: [1]}, 5):
            if not isinstance(value, (list, tuple)) or not value:
                self.assert_wrong(value, None)

    def test_no_told(self):
        for value in NO_TOLDS + tuple((point, [0]) for point in UNITS + NEAR_UNITS):
            self.assert_wrong([value], 0)
            self.assert_wrong((value,), 0)
        for value in ((0, [1] * 5), (1, [0]), [HALF, [1]], True):
            self.assert_wrong([GOOD, value], 1)
            self.assert_wrong([GOOD, (HALF, [1, 2, 3, 4]), value, None], 2)

    def test_point_twice(self):
        for twice in (0, Ratio(0), Twin(0), Twin(Ratio(0, 5), 0)):
            self.assert_wrong([GOOD, (twice, [1])], 1)
            self.assert_wrong([(HALF, [1]), (Ratio(1, 3), [2]), GOOD, (twice, [HALF]), None], 3)
        self.assert_wrong([(Twin(HALF), [1]), (Ratio(2, 4), [1])], 1)

    def test_first_one_decides(self):
        self.assert_wrong([GOOD, (HALF, []), (0, [1])], 1)
        self.assert_wrong([GOOD, (0, [1]), (HALF, [])], 1)
        self.assert_wrong([None, None], 0)

    def test_too_many(self):
        for telling in TOO_MANY:
            for call, *behind in CALLS:
                for right in (behind, [None for _ in behind]):
                    self.assert_error(TooMany, call, telling, *right, what="answers", limit=6)

    def test_wrong_ahead_of_too_many(self):
        for telling in TOO_MANY:
            self.assert_wrong(list(telling) + [(Twin(0, Ratio(1, 7)), [])], len(telling))
            self.assert_wrong(list(telling) + [(telling[0][0], [0])], len(telling))

    def test_a_box_ahead(self):
        self.assert_error(InvalidBox, made.does, None, None, value=None)
        self.assert_error(InvalidBox, made.does, 1, TOO_MANY[0], value=1)
        self.assert_error(InvalidTelling, made.does, BOX, [GOOD, None], position=1)
        self.assert_error(InvalidTelling, made.does, BOX, [], position=None)
        for telling in TOO_MANY:
            self.assert_error(TooMany, made.does, BOX, telling, what="answers", limit=6)

    def test_all_forms(self):
        forms = (
            [GOOD], (GOOD,), [(Ratio(0), (Ratio(1, 2),))], [(Twin(0), [Twin(HALF)])], [(0, [HALF, 0, 0, 0]), (HALF, [1, 2])],
            [(Ratio(1, k), [0]) for k in range(2, 8)], [(Twin(Ratio(3, 5), Ratio(79, 100)), [10 ** 6, Twin(-5, 7)])],
        )
        for telling in forms:
            for call in (tones.force_table, made.made_table):
                many = sum([len(answers) for _, answers in telling])
                found = call(telling)
                self.assert_rows(found)
                self.assertEqual([len(row) for row in found], [many] * many)

    def test_nothing_kept(self):
        answers = [HALF]
        telling = [(0, answers)]
        found = steps.stepped(telling, 0)
        answers.append(1)
        telling.append(None)
        self.assertEqual(found, [(Twin(0), [Twin(HALF)])])
        self.assertIs(found[0].__class__, tuple)


if __name__ == "__main__":
    unittest.main()
