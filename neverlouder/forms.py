"""Forms: texts are read back, line by line, if they are written just so."""

from neverlouder.boxes import Box
from neverlouder.built import MOST_STEPS
from neverlouder.curves import MOST_ENTRIES
from neverlouder.errors import InvalidText
from neverlouder.ratios import Ratio
from neverlouder.tellings import MOST_ANSWERS, MOST_AT_POINT, answers_in, is_told_at
from neverlouder.texts import MOST_WEIGHTS, value_word
from neverlouder.turns import Turn
from neverlouder.twins import Twin, is_point, is_unit

MOST_DIGITS = 3000


def read_word(word):
    """The Twin of a word, a string; None if no VALUE is written so."""
    plain = "0"
    side = "0"
    if word.endswith("i"):
        side = word[:-1]
        # A sign in front belongs to the side alone.
        at = max(side.rfind("+"), side.rfind("-"))
        if at > 0:
            plain = side[:at]
            side = side[at:].removeprefix("+")
    else:
        plain = word
    parts = [_part(plain), _part(side)]
    if parts[0] is None or parts[1] is None:
        return None
    found = Twin(parts[0], parts[1])
    return found if value_word(found) == word else None


def _part(text):
    """The Ratio of a part, perhaps one that is not written in lowest terms; None if it is none."""
    top, stroke, bottom = text.removeprefix("-").partition("/")
    if stroke == "":
        bottom = "1"
    if not _are_digits(top) or not _are_digits(bottom) or int(bottom) == 0:
        return None
    found = Ratio(int(top), int(bottom))
    return -found if text.startswith("-") else found


def _are_digits(text):
    return text.isascii() and text.isdigit() and len(text) <= MOST_DIGITS


def _lines_of(text):
    if not isinstance(text, str):
        raise InvalidText(1)
    return text.split("\n")


def _need(is_right, line):
    """Raise InvalidText with this line unless it is right."""
    if not is_right:
        raise InvalidText(line)


def _line_at(lines, at):
    """The line at a position; it must be there."""
    _need(at < len(lines), at + 1)
    return lines[at]


def _need_end(lines, at):
    """At this position there must be the end, and nothing behind it."""
    _need(_line_at(lines, at) == "end", at + 1)
    _need_last(lines, at)


def _need_last(lines, at):
    _need(len(lines) == at + 1, at + 2)


def _numbers_at(lines, at, first, least, most):
    """The Twins behind the first word of a line, at least so many and at most so many."""
    words = _line_at(lines, at).split(" ")
    many = len(words) - 1
    _need(words[0] == first and least <= many and many <= most, at + 1)
    found = [read_word(word) for word in words[1:]]
    _need(all([one is not None for one in found]), at + 1)
    return found


def read_value(text):
    """The Twin of a word."""
    lines = _lines_of(text)
    found = read_word(lines[0])
    _need(found is not None, 1)
    _need_last(lines, 0)
    return found


def read_telling(text):
    """The telling of a text, a list of tuples (Twin, list of Twins)."""
    lines = _lines_of(text)
    _need(lines[0] == "telling", 1)
    tolds = []
    at = 1
    while not tolds or _line_at(lines, at) != "end":
        point, *answers = _numbers_at(lines, at, "told", 2, 1 + MOST_AT_POINT)
        _need(is_point(point) and not is_told_at(tolds, point), at + 1)
        tolds.append((point, answers))
        _need(answers_in(tolds) <= MOST_ANSWERS, at + 1)
        at += 1
    _need_end(lines, at)
    return tolds


def read_box(text):
    """The Box of a text."""
    lines = _lines_of(text)
    _need(lines[0] == "box", 1)
    top = _numbers_at(lines, 1, "top", 0, MOST_ENTRIES)
    base = _numbers_at(lines, 2, "base", 1, MOST_ENTRIES)
    _need(not base[0].is_nought, 3)
    _need_end(lines, 3)
    return Box(top, base)


def read_steps(text):
    """The steps of a text, a tuple (list of tuples (Twin, Twin), Twin)."""
    lines = _lines_of(text)
    _need(lines[0] == "steps", 1)
    pairs = []
    at = 1
    while _line_at(lines, at).split(" ")[0] == "step":
        point, number = _numbers_at(lines, at, "step", 2, 2)
        _need(is_point(point) and is_point(number) and len(pairs) < MOST_STEPS, at + 1)
        pairs.append((point, number))
        at += 1
    last = _numbers_at(lines, at, "last", 1, 1)[0]
    _need(is_point(last) or is_unit(last), at + 1)
    _need_end(lines, at + 1)
    return pairs, last


def read_turn(text):
    """The Turn of a text."""
    lines = _lines_of(text)
    number, point = _numbers_at(lines, 0, "turn", 2, 2)
    _need(is_unit(number) and is_point(point), 1)
    _need_last(lines, 0)
    return Turn(number, point)


def read_weights(text):
    """The weights of a text, a list of Twins."""
    lines = _lines_of(text)
    found = _numbers_at(lines, 0, "weights", 1, MOST_WEIGHTS)
    _need_last(lines, 0)
    return found


READERS = {
    "telling": read_telling, "box": read_box, "steps": read_steps, "turn": read_turn, "weights": read_weights,
}


def read(text):
    """What a text tells, by its first word; of a VALUE's word the Twin."""
    word = _lines_of(text)[0].split(" ")[0]
    if word not in READERS:
        return read_value(text)
    reader = READERS[word]
    return reader(text)
