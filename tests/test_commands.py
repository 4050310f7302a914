"""Names and commands by their words alone (points 95, 97 and 98)."""

import unittest

from neverlouder.commands import is_command, is_deed, is_name
from tests.helper import ODD_VALUES, Looks

NAMES = ("a", "z", "a1", "abcdefgh", "a2345678", "by", "end", "telling", "x0")
NO_NAMES = ODD_VALUES + ("", "A", "aB", "1a", "1", "abcdefghi", "a b", " a", "a ", "a_b", "a-b", "a.", "a\n", "\n", "aA", 1, ["a"], ("a",))

DEEDS = (
    "telling a", "telling by", "tell a 0 1", "tell a 1/2 0 1i", "tell a 1/2i 1 2 3 4", "tell a 3/5+3/5i 999/998-1/999i", "next a 0 5",
    "next a 1/2 -1/2i", "untell a 0", "untell a -1/3+1/3i", "copy b a", "copy a a", "box b by 1", "box b 1 2 by 3", "box by by 1",
    "box b 0 0 by 0", "box b" + " 1" * 50 + " by" + " 1" * 50, "build b a", "member c a b", "behind c a b", "share c a b 1/2",
    "share c a b 0", "share c a b -5", "take c b 1 0", "take c b 0 0 0", "take c b 999 1/2 0 1/2i 0 0 0 0 0", "drop a", "claim a does a",
    "claim a cannot a", "claim up only a", "claim up notonly a", "claim x in a 1/2 1", "claim x out a 0 -1i", "claim x softer a 2",
    "claim x louder a 1/2", "claim x softer a -2", "claim x softer a 0", "claim x never b", "claim does loud b", "forget a",
)
OTHERS = (
    "undo", "redo", "state x", "states", "claimed x", "names", "show a", "kind a", "params a", "spot a 0", "spot a 1/2-1/2i", "soft a 4",
    "soft a -1", "soft a 0", "done a b", "never b", "worth b 0", "answers b", "answers b 1", "answers b 1 2 1i 0 0",
    "answers b" + " 1" * 70,
)
NO_COMMANDS = (
    "", " ", "a", "Telling a", "telling", "telling a b", "telling A", "telling 1", "telling abcdefghi", "telling  a", " telling a", "telling a ",
    "tell a", "tell a 0", "tell a 1 0", "tell a 0 1 2 3 4 5", "tell a 3/5+4/5i 0", "tell a 0 x", "tell a 0 +1", "tell a 0 01", "tell a 0 1000",
    "tell a 0 1/1000", "tell a 0 1+1000i", "tell a 0 1-1/1000i", "tell a 0 2/4", "tell a 0 1.0", "tell 0 0 1", "tell a 0  1", "next a 0",
    "next a 0 1 2", "next a 1 0", "next a 0 i", "untell a", "untell a 1", "untell a 0 0", "untell a 0 1", "copy a", "copy a b c", "copy A b",
    "box b", "box b 1", "box b by", "box b 1 by", "box b by 1 by 1", "box b 1 x by 1", "box b by x", "box by 1", "box b 1,2 by 1", "box b BY 1",
    "build b", "build b a c", "member b a", "member b a c d", "behind b a", "share b a c", "share b a c 1i", "share b a c 1/2 1/2",
    "share b a c 1/2+1/2i", "take c b", "take c b 1", "take c b 1000 0", "take c b -1 0", "take c b 01 0", "take c b 00 0", "take c b 1/2 0",
    "take c b 1 1", "take c b  0", "take c b " + "9" * 3900 + " 0", "take c b 1 2", "take c b 1 0 x", "take c b +1 0", "drop", "drop a b", "drop A", "claim", "claim x", "claim x does",
    "claim x does a b", "claim x Does a", "claim x do a", "claim X does a", "claim x in a", "claim x in a 0", "claim x in a 1 0", "claim x in a 0 0 0",
    "claim x softer a", "claim x softer a 1i", "claim x softer a 1 1", "claim x never", "claim x never b 1", "claim x loud B", "claim does a",
    "forget", "forget a b", "forget 1", "undo a", "redo 1", "undo ", "Undo", "state", "state x y", "states x", "claimed", "names a", "show",
    "show a b", "kind", "kind a b", "params a b", "spot a", "spot a 1", "spot a 0 0", "soft a", "soft a 1i", "soft a 1 1", "done a", "done a b c",
    "never", "never b c", "worth b", "worth b 1", "worth b 0 0", "answers", "answers b x", "answers b 1 ", "answers b 1  2", "answers b 1000",
    "attach x", "undo\n", "names\nnames", "telling\na", "tell a 0 1\n", "fits x", "len", "exit", "telling a;", "box b by 0x1",
)


class Names(Looks, unittest.TestCase):
    def test_is_name(self):
        for value in NAMES:
            self.assert_answer(True, is_name(value))
        for value in NO_NAMES:
            self.assert_answer(False, is_name(value))
        self.assert_answer(True, is_name(value="a"))


class Commands(Looks, unittest.TestCase):
    def test_deeds(self):
        for command in DEEDS:
            self.assert_answer(True, is_command(command))
            self.assert_answer(True, is_deed(command))

    def test_others(self):
        for command in OTHERS:
            self.assert_answer(True, is_command(command))
            self.assert_answer(False, is_deed(command))

    def test_no_commands(self):
        for value in NO_COMMANDS + tuple(value for value in ODD_VALUES if value != "1") + ("1", 1, ["undo"], b"undo", ("telling a",)):
            self.assert_answer(False, is_command(value))
            self.assert_answer(False, is_deed(value))
        self.assert_answer(True, is_command(value="names"))
        self.assert_answer(True, is_deed(value="drop a"))

    def test_words_left_out_or_put_in(self):
        for command in DEEDS + OTHERS:
            self.assert_answer(False, is_command(command + " ?"))
            self.assert_answer(False, is_command(command.replace(" ", "  ", 1) if " " in command else command + " "))
            self.assert_answer(False, is_command(" " + command))
            self.assert_answer(False, is_command(command + "\n"))
            self.assert_answer(False, is_command(command[0].upper() + command[1:]))

    def test_each_word_has_a_name_where_one_stands(self):
        for name in NAMES:
            for command in ("telling {}", "tell {} 0 1", "drop {}", "claim {} does {}", "box {} by 1", "member {} {} {}", "show {}", "state {}"):
                self.assert_answer(True, is_command(command.replace("{}", name)))
        for name in NO_NAMES:
            if isinstance(name, str):
                for command in ("telling {}", "tell {} 0 1", "drop {}", "claim {} does a", "box {} by 1", "show {}", "state {}"):
                    self.assert_answer(False, is_command(command.replace("{}", name)))


if __name__ == "__main__":
    unittest.main()
