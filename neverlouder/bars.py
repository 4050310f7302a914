"""Bars of tables: weights with a form below 0."""

from neverlouder.ratios import Ratio
from neverlouder.squares import is_never_below, steps_above
from neverlouder.tables import dot, form_of, is_weights, told_table, unit_weights
from neverlouder.twins import Twin, as_twin


def bar(table):
    """A bar, a list of Twins; None if the table is never below."""
    rows = told_table(table)
    steps, rest = steps_above(rows)
    weights = _bar_of_rest(rest)
    if weights is None:
        return None
    # A step's row gives nothing to the form where its sum with the weights is 0.
    for at, _, row in steps[::-1]:
        weights[at] = -dot(weights, row)
    return _shortened(rows, weights)


def _shortened(rows, weights):
    """A bar near a bar, told with few digits: some bar is, and numbers of steps may be long."""
    below = 1
    short = _rounded(weights, below)
    while form_of(rows, short).sign >= 0:
        below = 16 * below * below
        short = _rounded(weights, below)
    return short


def _rounded(weights, below):
    return [Twin(_whole_parts(one.plain, below), _whole_parts(one.side, below)) for one in weights]


def _whole_parts(ratio, below):
    """The greatest multiple of 1 by below that is at most the Ratio."""
    return Ratio(ratio.top * below // ratio.bottom, below)


def _bar_of_rest(rows):
    """A bar of a table without a value (p, p) above 0; None if it is 0 all over."""
    many = len(rows)
    for at in range(many):
        if rows[at][at].plain.sign < 0:
            return unit_weights(at, many)
    for at in range(many):
        for other in range(at):
            if not rows[at][other].is_nought:
                weights = unit_weights(at, many)
                weights[other] = -rows[at][other]
                return weights
    return None


def is_bar(table, value):
    """Whether any value is a bar of the table."""
    rows = told_table(table)
    if not is_weights(value, len(rows)):
        return False
    return form_of(rows, [as_twin(one) for one in value]).sign < 0


def least_part(table):
    """The least position k such that the table picked by 0 to k is not never below; None without one."""
    rows = told_table(table)
    for at in range(len(rows)):
        if not is_never_below([row[:at + 1] for row in rows[:at + 1]]):
            return at
    return None
