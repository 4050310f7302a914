"""Words and texts, and how they are read back (points 91 and 92)."""

import unittest

from neverlouder.boxes import Box
from neverlouder.built import steps_of
from neverlouder.errors import InvalidBox, InvalidNumber, InvalidTelling, InvalidText, InvalidThing, TooMany
from neverlouder.forms import read, read_box, read_steps, read_telling, read_turn, read_value, read_weights
from neverlouder.ratios import Ratio
from neverlouder.texts import box_text, steps_text, telling_text, text_of, turn_text, value_word, weights_text
from neverlouder.turns import Turn
from neverlouder.twins import Twin
from tests.helper import HALF, ODD_VALUES, POINTS, UNITS, Chance, Looks
from tests.test_built import NO_STEPS, STEPS

WORDS = {
    "0": 0, "1": 1, "-3": -3, "1/2": HALF, "-7/3": Ratio(-7, 3), "1i": Twin(0, 1), "-1i": Twin(0, -1), "12": Twin(12),
    "3/4i": Twin(0, Ratio(3, 4)), "-3/4i": Twin(0, Ratio(-3, 4)), "1/2+1i": Twin(HALF, 1), "1/2-1i": Twin(HALF, -1),
    "-5-2/3i": Twin(-5, Ratio(-2, 3)), "-1/9+10/11i": Twin(Ratio(-1, 9), Ratio(10, 11)), "100-200i": Twin(100, -200),
}
NO_WORDS = (
    "", " ", "+1", "01", "-0", "00", "1/1", "2/4", "1/0", "0/1", "1/-2", "-1/-2", "1//2", "/2", "1/", "1.0", "1e3", "1_0",
    "i", "-i", "+1i", "0i", "-0i", "1+0i", "0+1i", "0-1i", "1/2+i", "1/2-i", "1+-1i", "1--1i", "1-+1i", "1++1i", "1+1", "1i+1",
    "1+2i3", "1+2/4i", "2/4+1i", "1/2i/2", "1 i", "1 + 1i", " 1", "1 ", "1i ", "1I", "x", "1/2 ", "--1", "1+01i", "1/02",
    "1ii", "i1", "1/2/3", "Twin(1)", "None", "\n", "1\n", "1+1i+1i", "1-1", "-", "/", "\u00b2", "1/\u00b2", "\u0663", "1/i", "+", "1+", "1+i",
)
TELLINGS = (
    ([(0, [HALF])], "telling\ntold 0 1/2\nend"),
    ([(0, [HALF]), (HALF, (1, 0))], "telling\ntold 0 1/2\ntold 1/2 1 0\nend"),
    (((Twin(0, HALF), [5, Twin(1, 1), -1, 0]), (0, [0, 0])), "telling\ntold 1/2i 5 1+1i -1 0\ntold 0 0 0\nend"),
    ([(point, [k]) for k, point in enumerate(POINTS[:6])], None),
)
BOXES = (
    (Box([], [1]), "box\ntop\nbase 1\nend"), (Box([0, 2], [4, 2]), "box\ntop 0 1/2\nbase 1 1/2\nend"),
    (Box([Twin(0, 1)], [1, 0, Twin(1, -1)]), "box\ntop 1i\nbase 1 0 1-1i\nend"),
)
TURNS = ((Turn(1, HALF), "turn 1 1/2"), (Turn(Twin(0, -1), Twin(0, Ratio(1, 3))), "turn -1i 1/3i"))
WEIGHTS = (([1], "weights 1"), ((HALF, Twin(0, 1), 0), "weights 1/2 1i 0"), ([0] * 8, "weights 0 0 0 0 0 0 0 0"))
LONG = int("7" * 3000)


class Words(Looks, unittest.TestCase):
    def test_words(self):
        for word, number in WORDS.items():
            self.assertEqual(value_word(number), word)
            found = read_value(word)
            self.assertIs(found.__class__, Twin)
            self.assertEqual(found, Twin(1) * number)
            self.assertEqual(read(word), found)
            self.assertEqual(text_of(number), word)

    def test_of_any_kind_alike(self):
        for number in (0, 1, -7):
            for same in (number, Ratio(number), Twin(number), Ratio(number * 3, 3)):
                self.assertEqual(value_word(same), str(number))
        self.assertEqual(value_word(number=Twin(Ratio(2, 4), Ratio(-3, 6))), "1/2-1/2i")

    def test_any_values(self):
        chance = Chance(381)
        for _ in range(200):
            number = chance.value()
            self.assertEqual(read_value(value_word(number)), Twin(1) * number)

    def test_what_is_no_word(self):
        for word in NO_WORDS:
            line = 2 if word == "1\n" else 1
            self.assert_error(InvalidText, read_value, word, line=line)
            self.assert_error(InvalidText, read, word, line=line)
        for text, line in (("1/2\n", 2), ("1/2\nend", 2), ("1\n1", 2), ("x\n1", 1), ("\n1", 1), ("1\n\n", 2)):
            self.assert_error(InvalidText, read_value, text, line=line)
            self.assert_error(InvalidText, read, text, line=line)

    def test_digits(self):
        for word in (str(LONG), "-" + str(LONG), "1/" + str(LONG), str(LONG) + "i"):
            self.assertEqual(value_word(read_value(word)), word)
        for word in (str(LONG) + "7", "-7" + str(LONG), "1/" + str(LONG) + "1", "1+7" + str(LONG) + "i", "1" * 3999):
            self.assert_error(InvalidText, read_value, word, line=1)

    def test_wrong(self):
        for value in ODD_VALUES:
            self.assert_error(InvalidNumber, value_word, value, value=value)


class Written(Looks, unittest.TestCase):
    def test_tellings(self):
        for telling, text in TELLINGS:
            found = telling_text(telling)
            if text is not None:
                self.assertEqual(found, text)
            back = [(Twin(1) * point, [Twin(1) * one for one in told]) for point, told in telling]
            for call in (read_telling, read):
                self.assertEqual(call(found), back)
                self.assertIs(call(found).__class__, list)
                self.assertEqual({one.__class__ for one in call(found)}, {tuple})
            self.assertEqual(text_of(telling), found)
        self.assert_error(InvalidTelling, telling_text, [(0, [1]), (0, [2])], position=1)
        self.assert_error(TooMany, telling_text, [(0, [1] * 4), (HALF, [1] * 3)], what="answers", limit=6)

    def test_boxes(self):
        for box, text in BOXES:
            self.assertEqual(box_text(box), text)
            self.assertEqual((read_box(text), read(text), text_of(box)), (box, box, text))
        for value in ODD_VALUES:
            self.assert_error(InvalidBox, box_text, value, value=value)
        self.assertEqual(read_box(box_text(Box([1] * 41, [2] * 41))), Box([1] * 41, [2] * 41))

    def test_steps(self):
        for steps in STEPS:
            text = steps_text(steps)
            pairs, last = steps
            wanted = [(Twin(1) * point, Twin(1) * one) for point, one in pairs], Twin(1) * last
            for found in (read_steps(text), read(text)):
                self.assertEqual(found, wanted)
                self.assertEqual((found.__class__, found[0].__class__), (tuple, list))
            self.assertEqual(text_of(steps), text)
        self.assertEqual(steps_text(([(0, HALF), (HALF, Twin(0, HALF))], -1)), "steps\nstep 0 1/2\nstep 1/2 1/2i\nlast -1\nend")
        self.assertEqual(steps_text(steps=((), 0)), "steps\nlast 0\nend")
        for value in NO_STEPS:
            self.assert_error(InvalidThing, steps_text, value, value=value)

    def test_turns(self):
        for turn, text in TURNS:
            self.assertEqual(turn_text(turn), text)
            self.assertEqual((read_turn(text), read(text), text_of(turn)), (turn, turn, text))
        for value in ODD_VALUES + (1, (1, HALF), "turn 1 1/2"):
            self.assert_error(InvalidThing, turn_text, value, value=value)

    def test_weights(self):
        for weights, text in WEIGHTS:
            self.assertEqual(weights_text(weights), text)
            for found in (read_weights(text), read(text)):
                self.assert_twins(found)
                self.assertEqual(found, [Twin(1) * one for one in weights])
            self.assertEqual(text_of(weights), text)
        for value in ODD_VALUES + ([], (), [1] * 9, [1, True], 1, "1"):
            self.assert_error(InvalidThing, weights_text, value, value=value)

    def test_text_of_any_value(self):
        wrong = ODD_VALUES + ([], (), [1] * 9, [(0, [1]), (0, [1])], [(0, [1] * 4), (HALF, [1] * 3)], ([], 2), [(1, [1])])
        for value in wrong:
            self.assert_error(InvalidThing, text_of, value, value=value)
        self.assertEqual(text_of(thing=([], 0)), "steps\nlast 0\nend")
        self.assertEqual(text_of((1, 0)), "weights 1 0")
        self.assertEqual(text_of(steps_of([(0, [HALF])])), "steps\nstep 0 1/2\nlast 0\nend")


class Read(Looks, unittest.TestCase):
    def assert_text(self, reader, text, line):
        self.assert_error(InvalidText, reader, text, line=line)
        self.assert_error(InvalidText, read, text, line=line)

    def test_no_strings(self):
        for value in ODD_VALUES + (1, Twin(1), b"turn 1 0"):
            if not isinstance(value, str):
                for reader in (read, read_value, read_telling, read_box, read_steps, read_turn, read_weights):
                    self.assert_error(InvalidText, reader, value, line=1)

    def test_lines_left_out_put_in_or_exchanged(self):
        texts = [telling_text(one) for one, _ in TELLINGS] + [box_text(one) for one, _ in BOXES] + [steps_text(one) for one in STEPS]
        for text in texts:
            lines = text.split("\n")
            readers = {"telling": read_telling, "box": read_box, "steps": read_steps}
            reader = readers[lines[0]]
            for many in range(1, len(lines)):
                # It ends too early: the last line and 1 more.
                self.assert_text(reader, "\n".join(lines[:many]), many + 1)
            for at in range(1, len(lines) + 1):
                for more in ("", "x", "tell 0 1", " " + lines[-1], lines[-1] + " ", "told", "end end", "1"):
                    self.assert_text(reader, "\n".join(lines[:at] + [more] + lines[at:]), at + 1)
            self.assert_text(reader, text + "\n", len(lines) + 1)
            self.assert_text(reader, text + "\nend", len(lines) + 1)
            self.assert_error(InvalidText, reader, "\n" + text, line=1)
            self.assert_error(InvalidText, reader, " " + text, line=1)
            self.assert_error(InvalidText, reader, text.replace(lines[0], lines[0] + "s", 1), line=1)
            self.assert_error(InvalidText, reader, "", line=1)
            self.assert_text(reader, lines[0] + " \n" + "\n".join(lines[1:]), 1)

    def test_blanks(self):
        for text, reader in ((telling_text(TELLINGS[1][0]), read_telling), (box_text(BOXES[1][0]), read_box), (steps_text(STEPS[6]), read_steps)):
            lines = text.split("\n")
            for at, line in enumerate(lines):
                for bad in (line + " ", " " + line, line.replace(" ", "  ", 1) if " " in line else line + " "):
                    self.assert_error(InvalidText, reader, "\n".join(lines[:at] + [bad] + lines[at + 1:]), line=at + 1)

    def test_tellings(self):
        for lines, line in (
            (["telling", "end"], 2), (["telling"], 2), (["telling", "told 0"], 2), (["telling", "told 0 1"], 3),
            (["telling", "told 1 0", "end"], 2), (["telling", "told 0 1 2 3 4 5", "end"], 2), (["telling", "told 3/5+4/5i 0", "end"], 2),
            (["telling", "told 0 1", "told 1/2 1", "told 0 2", "end"], 4), (["telling", "told 0 1", "told 2/4 1", "end"], 3),
            (["telling", "told 0 1 1 1 1", "told 1/2 1 1", "told 1/3 1", "end"], 4),
            (["telling", "told 0 1 1 1 1", "told 1/2 1 1 1", "told 0 1", "x"], 3), (["telling", "told 0 +1", "end"], 2),
            (["telling", "step 0 1", "end"], 2), (["telling", "told 0 1", "end", "told 1/2 1"], 4), (["telling x", "told 0 1", "end"], 1),
            (["telling", "told  0 1", "end"], 2), (["telling", "told 0 1", "END"], 3), (["telling", "told 0 1/0", "end"], 2),
        ):
            self.assert_text(read_telling, "\n".join(lines), line)
        self.assertEqual(read_telling(text="telling\ntold 0 9\nend"), [(Twin(0), [Twin(9)])])

    def test_boxes(self):
        for lines, line in (
            (["box"], 2), (["box", "base 1", "end"], 2), (["box", "top", "end"], 3), (["box", "top", "base", "end"], 3),
            (["box", "top 1", "base 0 1", "end"], 3), (["box", "top 1", "base 0", "end"], 3), (["box", "top ", "base 1", "end"], 2),
            (["box", "base 1", "top 1", "end"], 2), (["box", "top 1", "base 1"], 4), (["box", "top 1", "base 1", ""], 4),
            (["box", "top" + " 1" * 42, "base 1", "end"], 2), (["box", "top", "base" + " 1" * 42, "end"], 3),
            (["box", "top 01", "base 1", "end"], 2), (["box", "top 1", "base 1 2/2", "end"], 3), (["box", "top 1", "base 1", "end", ""], 5),
        ):
            self.assert_text(read_box, "\n".join(lines), line)
        # Of any two curves that make one.
        for text, box in (
            ("box\ntop 0 0\nbase 2 0\nend", Box([], [1])), ("box\ntop 2 4 0\nbase 4 8\nend", Box([HALF], [1])),
            ("box\ntop" + " 1" * 41 + "\nbase" + " 1" * 41 + "\nend", Box([1], [1])),
        ):
            self.assertEqual(read_box(text=text), box)
            self.assertEqual(read(text), box)

    def test_steps(self):
        for lines, line in (
            (["steps"], 2), (["steps", "end"], 2), (["steps", "last 0"], 3), (["steps", "last 2", "end"], 2),
            (["steps", "step 0 1", "last 0", "end"], 2), (["steps", "step 1 0", "last 0", "end"], 2), (["steps", "step 0", "last 0", "end"], 2),
            (["steps", "step 0 0 0", "last 0", "end"], 2), (["steps", "step 0 0", "end"], 3), (["steps", "last 0", "step 0 0", "end"], 3),
            (["steps"] + ["step 0 0"] * 25 + ["last 0", "end"], 26), (["steps", "last", "end"], 2), (["steps", "last 0 0", "end"], 2),
            (["steps", "step 0 3/5+4/5i", "last 0", "end"], 2), (["steps", "last 3/5+4/5i", "end", ""], 4), (["steps", "last 1+1i", "end"], 2),
            (["steps", "steps", "last 0", "end"], 2), (["steps", "step 0 0", "last 0", "last 0", "end"], 4),
        ):
            self.assert_text(read_steps, "\n".join(lines), line)
        self.assertEqual(read_steps(text="steps\nlast 3/5+4/5i\nend"), ([], Twin(Ratio(3, 5), Ratio(4, 5))))

    def test_turns(self):
        for text, line in (
            ("turn", 1), ("turn 1", 1), ("turn 1 0 0", 1), ("turn 0 0", 1), ("turn 1 1", 1), ("turn 2 0", 1), ("turn 1/2 1", 1),
            ("turn  1 0", 1), ("turn 1 0 ", 1), ("turn 1 0\n", 2), ("turn 1 0\nend", 2), ("turn -1 2/4", 1), ("turn 1 -0", 1),
        ):
            self.assert_text(read_turn, text, line)
        for text in ("turns 1 0", "", "1 0", "Turn 1 0"):
            self.assert_error(InvalidText, read_turn, text, line=1)
        self.assertEqual(read_turn(text="turn -1 0"), Turn(-1, 0))

    def test_weights(self):
        for text, line in (
            ("weights", 1), ("weights ", 1), ("weights" + " 1" * 9, 1), ("weights x", 1), ("weights 1 ", 1), ("weights 1\n", 2),
            ("weights 1\nweights 1", 2), ("weights 1  1", 1), ("weights 1+0i", 1),
        ):
            self.assert_text(read_weights, text, line)
        self.assertEqual(read_weights(text="weights 0 1i"), [Twin(0), Twin(0, 1)])

    def test_by_first_word(self):
        texts = [text for _, text in TELLINGS[:3] + BOXES + TURNS + WEIGHTS] + [steps_text(STEPS[6]), "1/2"]
        readers = (read_telling, read_box, read_steps, read_turn, read_weights, read_value)
        for text in texts:
            right = [reader for reader in readers if self.reads(reader, text)]
            self.assertEqual(len(right), 1)
            self.assertEqual(right[0](text), read(text=text))
            for reader in readers:
                if reader is not right[0]:
                    self.assert_error(InvalidText, reader, text, line=1)
        for text in ("", "x", "tellings", "end", "told 0 1", "Box", " box", "boxes\ntop", "step 0 0"):
            self.assert_error(InvalidText, read, text, line=1)

    def reads(self, reader, text):
        try:
            reader(text)
        except InvalidText:
            return False
        return True

    def test_returned_ones_are_new(self):
        text = telling_text(TELLINGS[1][0])
        first, second = read_telling(text), read_telling(text)
        first[0][1].append(1)
        first.append(2)
        self.assertEqual(read_telling(text), second)

    def test_units(self):
        for unit in UNITS:
            self.assertEqual(read_turn(turn_text(Turn(unit, HALF))), Turn(unit, HALF))


if __name__ == "__main__":
    unittest.main()
