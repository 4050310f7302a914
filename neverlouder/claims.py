"""Claims of tellings and boxes, whether they are true, and papers that show it."""

from neverlouder.bars import bar, is_bar
from neverlouder.boxes import Box
from neverlouder.built import are_showing, box_of, steps_of_tolds
from neverlouder.errors import InvalidClaim
from neverlouder.judged import is_loud_point, is_never_louder, loud_point
from neverlouder.made import kind_of, made_rows
from neverlouder.ranks import nothing
from neverlouder.ratios import Ratio, as_ratio, is_ratio
from neverlouder.rims import MOST_DEGREE
from neverlouder.tables import form_of, is_all_nought, is_weights
from neverlouder.tellings import MOST_ANSWERS, answers_in, is_telling, is_told_at, told_telling
from neverlouder.twins import as_twin, is_point, is_value

CONTRARIES = {
    "does": "cannot", "cannot": "does", "only": "notonly", "notonly": "only", "in": "out", "out": "in",
    "softer": "louder", "louder": "softer", "never": "loud", "loud": "never",
}
BOX_WORDS = ("never", "loud")
SPOT_WORDS = ("in", "out")
BOUND_WORDS = ("softer", "louder")
# These claims are shown by steps, and their contraries by bars.
STEPS_WORDS = ("does", "in", "softer")
BAR_WORDS = ("cannot", "out", "louder")


def words():
    """The list of the words of claims."""
    return list(CONTRARIES)


def is_claim(value):
    """Whether any value is a claim."""
    if not isinstance(value, tuple) or len(value) < 2 or not isinstance(value[0], str):
        return False
    word = value[0]
    if word in BOX_WORDS:
        return len(value) == 2 and isinstance(value[1], Box) and value[1].degree <= MOST_DEGREE
    return word in CONTRARIES and is_telling(value[1]) and _are_parts(word, value[1], value[2:])


def _are_parts(word, telling, parts):
    """Whether a tuple is what stands behind the telling in a claim of this word."""
    if word in SPOT_WORDS:
        if len(parts) != 2 or not is_point(parts[0]) or not is_value(parts[1]):
            return False
        tolds = told_telling(telling)
        return not is_told_at(tolds, as_twin(parts[0])) and answers_in(tolds) < MOST_ANSWERS
    if word in BOUND_WORDS:
        return len(parts) == 1 and is_ratio(parts[0]) and as_ratio(parts[0]).sign > 0
    return len(parts) == 0


def _told_claim(claim):
    """The claim in Twins and Ratios; InvalidClaim unless it is one."""
    if not is_claim(claim):
        raise InvalidClaim(claim)
    word, thing, *parts = claim
    if word in BOX_WORDS:
        return claim
    tolds = told_telling(thing)
    if word in BOUND_WORDS:
        return word, tolds, as_ratio(parts[0])
    return word, tolds, *[as_twin(one) for one in parts]


def contrary(claim):
    """The claim that is true just if this one is not."""
    word, *parts = _told_claim(claim)
    return CONTRARIES[word], *parts


def _asked(claim):
    """The tuple of the tolds and the bound within which a told claim of a telling asks for boxes."""
    word, tolds, *parts = claim
    if word in SPOT_WORDS:
        return tolds + [(parts[0], [parts[1]])], Ratio(1)
    if word in BOUND_WORDS:
        return tolds, parts[0]
    return tolds, Ratio(1)


def is_true(claim):
    """Whether the claim is true."""
    return _is_true(_told_claim(claim))


def _is_true(claim):
    word = claim[0]
    if word in BOX_WORDS:
        return is_never_louder(claim[1]) == (word == "never")
    tolds, bound = _asked(claim)
    found = kind_of(tolds, bound)
    if word in STEPS_WORDS:
        return found != "none"
    if word in BAR_WORDS:
        return found == "none"
    return (found == "one") == (word == "only")


def paper_of(claim):
    """A paper of the claim; None if it is not true."""
    told = _told_claim(claim)
    if not _is_true(told):
        return None
    word = told[0]
    if word in BOX_WORDS:
        return () if word == "never" else loud_point(told[1])
    tolds, bound = _asked(told)
    if word in STEPS_WORDS:
        return steps_of_tolds(tolds, bound)
    if word in BAR_WORDS:
        return bar(made_rows(tolds, bound))
    if word == "only":
        return steps_of_tolds(tolds), nothing(made_rows(tolds, 1))[0]
    return _paper_of_not_only(tolds)


def _paper_of_not_only(tolds):
    found = bar(made_rows(tolds, 1))
    if found is not None:
        return found
    pairs, last = steps_of_tolds(tolds)
    # Unlike free boxes, here two numbers, lead to unlike boxes.
    return (pairs, last), (list(pairs), last + Ratio(1, 2))


def is_paper_of(claim, value):
    """Whether any value is a paper of the claim."""
    told = _told_claim(claim)
    word = told[0]
    if word == "never":
        return isinstance(value, tuple) and len(value) == 0 and is_never_louder(told[1])
    if word == "loud":
        return is_loud_point(told[1], value)
    tolds, bound = _asked(told)
    if word in STEPS_WORDS:
        return are_showing(tolds, bound, value)
    if word in BAR_WORDS:
        return is_bar(made_rows(tolds, bound), value)
    if word == "only":
        return _is_paper_of_only(tolds, value)
    return is_bar(made_rows(tolds, 1), value) or _are_two_boxes(tolds, value)


def _is_pair(value):
    return isinstance(value, tuple) and len(value) == 2


def _is_paper_of_only(tolds, value):
    if not _is_pair(value) or not is_weights(value[1], answers_in(tolds)):
        return False
    weights = [as_twin(one) for one in value[1]]
    if is_all_nought([weights]) or form_of(made_rows(tolds, 1), weights).sign != 0:
        return False
    return are_showing(tolds, 1, value[0])


def _are_two_boxes(tolds, value):
    """Whether any value is a tuple of steps of two unlike boxes that do the telling."""
    if not _is_pair(value) or not all([are_showing(tolds, 1, one) for one in value]):
        return False
    return box_of(value[0]) != box_of(value[1])
