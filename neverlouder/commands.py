"""Commands of a desk, by their words alone."""

from neverlouder.forms import read_word
from neverlouder.tellings import MOST_AT_POINT
from neverlouder.twins import is_point

LETTERS = "abcdefghijklmnopqrstuvwxyz"
DIGITS = "0123456789"
MOST_SIGNS = 8
# Parts of numbers and MANY have at most three digits.
MOST_DIGITS = 3
BEYOND_PARTS = 1000

# What stands behind the word of a command, each of a kind:
# new: a name under which nothing is kept; one, box, name: names of a telling, of a box, of something kept
# free: a label that is not taken; label: one that is; word: the word of a claim
# point, value, ratio, many: a number; curves, points, row, told: all the numbers that are left
FORMS = {
    "telling": ("new",),
    "tell": ("one", "point", "told"),
    "next": ("one", "point", "value"),
    "untell": ("one", "point"),
    "copy": ("new", "one"),
    "box": ("new", "curves"),
    "build": ("new", "one"),
    "member": ("new", "one", "box"),
    "behind": ("new", "box", "box"),
    "share": ("new", "box", "box", "ratio"),
    "take": ("new", "box", "many", "points"),
    "drop": ("name",),
    "forget": ("label",),
    "undo": (),
    "redo": (),
    "state": ("label",),
    "states": (),
    "claimed": ("label",),
    "names": (),
    "show": ("name",),
    "kind": ("one",),
    "params": ("one",),
    "spot": ("one", "point"),
    "soft": ("one", "ratio"),
    "done": ("one", "box"),
    "never": ("box",),
    "worth": ("box", "point"),
    "answers": ("box", "row"),
}
# What stands behind the word of a claim.
CLAIM_FORMS = {
    "does": ("one",), "cannot": ("one",), "only": ("one",), "notonly": ("one",),
    "in": ("one", "point", "value"), "out": ("one", "point", "value"),
    "softer": ("one", "ratio"), "louder": ("one", "ratio"), "never": ("box",), "loud": ("box",),
}
DEEDS = (
    "telling", "tell", "next", "untell", "copy", "box", "build", "member", "behind", "share", "take", "drop", "claim",
    "forget",
)


def is_name(value):
    """Whether any value is a name."""
    if not isinstance(value, str) or len(value) < 1 or len(value) > MOST_SIGNS or value[0] not in LETTERS:
        return False
    return all([sign in LETTERS or sign in DIGITS for sign in value])


def is_command(value):
    """Whether any value is a string that is a command by its words alone."""
    return parsed(value) is not None


def is_deed(value):
    """Whether any value is a deed."""
    return is_command(value) and value.split(" ")[0] in DEEDS


def parsed(value):
    """The parts of a command behind its word, a list of tuples (kind, part); None if it is no command."""
    if not isinstance(value, str):
        return None
    first, *words = value.split(" ")
    if first == "claim":
        if len(words) < 2 or words[1] not in CLAIM_FORMS:
            return None
        return _parts(("free", "word") + CLAIM_FORMS[words[1]], words)
    if first not in FORMS:
        return None
    return _parts(FORMS[first], words)


def claim_parts(text):
    """The parts of the words of a claim, as they stand behind its label."""
    first, *words = text.split(" ")
    return _parts(CLAIM_FORMS[first], words)


def _parts(kinds, words):
    """Tuples (kind, part) for words of these kinds; None if they are not such."""
    found = []
    left = words
    for kind in kinds:
        if kind in LISTS:
            reader = LISTS[kind]
            part = reader(left)
            left = []
        else:
            part = _part(kind, left)
            left = left[1:]
        if part is None:
            return None
        found.append((kind, part))
    return None if left else found


def _part(kind, words):
    """What the first word tells; None if it is not of the kind."""
    if not words:
        return None
    word = words[0]
    if kind == "many":
        return _many(word)
    if kind in ("point", "value", "ratio"):
        return _number(kind, word)
    # The words of claims, too, have the signs of names.
    return word if is_name(word) else None


def _many(word):
    if len(word) < 1 or len(word) > MOST_DIGITS or not all([sign in DIGITS for sign in word]):
        return None
    return int(word) if str(int(word)) == word else None


def _number(kind, word):
    found = read_word(word)
    if found is None or not _is_short(found.plain) or not _is_short(found.side):
        return None
    if kind == "point":
        return found if is_point(found) else None
    if kind == "ratio":
        return found.plain if found.is_plain else None
    return found


def _is_short(ratio):
    return abs(ratio.top) < BEYOND_PARTS and ratio.bottom < BEYOND_PARTS


def _numbers(kind, words, least):
    """The numbers of at least so many words; None if they are not such."""
    found = [_number(kind, word) for word in words]
    if len(found) < least or any([one is None for one in found]):
        return None
    return found


def _row(words):
    return _numbers("value", words, 0)


def _told(words):
    return _numbers("value", words, 1) if len(words) <= MOST_AT_POINT else None


def _points(words):
    return _numbers("point", words, 1)


def _curves(words):
    """The tuple of the lists of numbers ahead of `by` and behind it."""
    if "by" not in words:
        return None
    at = words.index("by")
    top = _numbers("value", words[:at], 0)
    base = _numbers("value", words[at + 1:], 1)
    return None if top is None or base is None else (top, base)


LISTS = {"row": _row, "told": _told, "points": _points, "curves": _curves}
