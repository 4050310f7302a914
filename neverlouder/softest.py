"""Softest bounds: how loud a box must be let be, so that some box does a telling."""

from neverlouder.basics import is_count
from neverlouder.bounds import as_bound
from neverlouder.errors import InvalidMany, InvalidWeights
from neverlouder.made import kind_of, kind_of_rows, less_out, out_rows
from neverlouder.ratios import Ratio
from neverlouder.tables import form_of, is_all_nought, told_weights
from neverlouder.tellings import answers_in, told_telling
from neverlouder.tones import force_rows

MOST_MANY = 1000


def shown_by(telling, weights):
    """What comes out of a mixture of the tones, divided by what goes in, a Ratio."""
    tolds = told_telling(telling)
    row = told_weights(weights, answers_in(tolds))
    if is_all_nought([row]):
        raise InvalidWeights(weights)
    force = force_rows(tolds)
    return form_of(out_rows(force, tolds), row).over(form_of(force, row))


def softest_between(telling, many):
    """The ends of the telling: the tuple of Ratios (low, high) between which its least bound lies."""
    tolds = told_telling(telling)
    if not is_count(many) or many < 1 or many > MOST_MANY:
        raise InvalidMany(many)
    force = force_rows(tolds)
    out = out_rows(force, tolds)
    low = Ratio(0)
    high = Ratio(1)
    while not _is_enough(force, out, high):
        high = high * 2
    while not ((high - low) * many).is_at_most(1):
        middle = (low + high).over(2)
        if _is_enough(force, out, middle):
            high = middle
        else:
            low = middle
    return low, high


def _is_enough(force, out, bound):
    return kind_of_rows(less_out(force, out, bound)) != "none"


def is_softest(telling, bound):
    """Whether the bound is just the least one within which the telling is doable."""
    tolds = told_telling(telling)
    # Within a greater bound many boxes do it, within a smaller one none.
    return kind_of(tolds, as_bound(bound)) == "one"
