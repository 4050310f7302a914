"""Squares of tables, which show that a table is never below, and the steps that lead to them."""

from neverlouder.basics import is_list
from neverlouder.ratios import as_ratio, is_ratio
from neverlouder.tables import is_all_nought, is_weights, told_table
from neverlouder.twins import as_twin


def is_never_below(table):
    """Whether no weights have a form below 0."""
    return squares(table) is not None


def squares(table):
    """Squares of a table, tuples (number, row); None if it is not never below."""
    steps, rest = steps_above(told_table(table))
    if not is_all_nought(rest):
        return None
    return [(number, row) for _, number, row in steps]


def steps_above(rows):
    """The steps over values (p, p) above 0, tuples (p, number, row), and the table behind them.

    The rest has no value (p, p) above 0: so the table is never below just if it is 0 all over.
    """
    steps = []
    rest = rows
    at = _first_above(rest)
    while at is not None:
        number = rest[at][at].plain
        steps.append((at, number, [row[at].over(number) for row in rest]))
        rest = without(rest, at)
        at = _first_above(rest)
    return steps, rest


def _first_above(rows):
    for at, row in enumerate(rows):
        if row[at].plain.sign > 0:
            return at
    return None


def without(rows, at):
    """The table behind a step of the first kind, over a value (at, at) that is not 0."""
    return less_product(rows, [row[at].over(rows[at][at]) for row in rows], rows[at])


def less_product(rows, column, line):
    """The rows, less the column's value at i times the line's at j from each (i, j)."""
    return [[one - by * two for one, two in zip(row, line)] for row, by in zip(rows, column)]


def is_squares(table, value):
    """Whether any value is squares of the table."""
    rest = told_table(table)
    if not is_list(value) or not all([_is_square(one, len(rest)) for one in value]):
        return False
    for number, row in value:
        line = [as_twin(one) for one in row]
        rest = less_product(rest, [one * number for one in line], [one.mirror() for one in line])
    return is_all_nought(rest)


def _is_square(value, many):
    if not isinstance(value, tuple) or len(value) != 2:
        return False
    number, row = value
    return is_ratio(number) and as_ratio(number).sign > 0 and is_weights(row, many)
