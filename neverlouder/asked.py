"""Questions that a desk is asked of tellings and boxes: the answers, in words."""

from neverlouder.bounds import is_doable_within
from neverlouder.boxes import Box
from neverlouder.judged import is_never_louder
from neverlouder.made import does, kind
from neverlouder.played import answers
from neverlouder.spots import spot
from neverlouder.steps import parameters
from neverlouder.texts import value_word, words_of


def _listed(numbers):
    return " ".join(words_of(numbers)) or "-"


def _yes_or_no(answer):
    return "yes" if answer else "no"


def _show(thing):
    if isinstance(thing, Box):
        top, base = thing.curves()
        return " ".join(words_of(top) + ["by"] + words_of(base))
    return ", ".join([" ".join(words_of([point] + told)) for point, told in thing]) or "-"


def _kind(tolds):
    return kind(tolds)


def _params(tolds):
    return _listed(parameters(tolds))


def _spot(tolds, point):
    return _listed(spot(tolds, point))


def _soft(tolds, ratio):
    return _yes_or_no(is_doable_within(tolds, ratio))


def _done(tolds, box):
    return _yes_or_no(does(box, tolds))


def _never(box):
    return _yes_or_no(is_never_louder(box))


def _worth(box, point):
    return value_word(box.worth(point))


def _answers(box, row):
    return _listed(answers(box, row))


ASKED = {
    "show": _show, "kind": _kind, "params": _params, "spot": _spot, "soft": _soft, "done": _done, "never": _never,
    "worth": _worth, "answers": _answers,
}


def asked_of(word, parts):
    """The answer to a question of the word, its names told as things."""
    action = ASKED[word]
    return action(*parts)
