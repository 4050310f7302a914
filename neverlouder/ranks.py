"""Signs, ranks and determinants of tables, and what comes to nothing of them."""

from neverlouder.ratios import Ratio
from neverlouder.squares import less_product, without
from neverlouder.tables import told_table, unit_weights

ONE_ROW = 1
TWO_ROWS = 2


def signs(table):
    """The tuple of the COUNTS (above, at, below)."""
    rows = told_table(table)
    above = 0
    below = 0
    for kind, number in _taken(rows):
        if kind == TWO_ROWS or number.sign > 0:
            above += 1
        if kind == TWO_ROWS or number.sign < 0:
            below += 1
    return above, len(rows) - above - below, below


def rank(table):
    """The number of free rows."""
    above, _, below = signs(table)
    return above + below


def determinant(table):
    """The determinant, a Ratio."""
    rows = told_table(table)
    found = Ratio(1)
    left = len(rows)
    for kind, number in _taken(rows):
        found = found * number
        left = left - kind
    if left > 0:
        return Ratio(0)
    return found


def _taken(rows):
    """What steps of squares take till all is 0: tuples of the rows that a step takes, and its Ratio."""
    found = []
    rest = rows
    pivot = _pivot(rest)
    while pivot is not None:
        at, other = pivot
        if at == other:
            found.append((ONE_ROW, rest[at][at].plain))
            rest = without(rest, at)
        else:
            found.append((TWO_ROWS, -rest[at][other].size()))
            rest = _without_two(rest, at, other)
        pivot = _pivot(rest)
    return found


def _pivot(rows):
    """A place (p, p) whose value is not 0, otherwise such a place (p, q); None if all is 0."""
    for at, row in enumerate(rows):
        if not row[at].is_nought:
            return at, at
    for at, row in enumerate(rows):
        for other in range(at):
            if not row[other].is_nought:
                return at, other
    return None


def _without_two(rows, at, other):
    """The table behind a step of the second kind, over a value (at, other) that is not 0."""
    first = [row[at].over(rows[other][at]) for row in rows]
    second = [row[other].over(rows[at][other]) for row in rows]
    return less_product(less_product(rows, first, rows[other]), second, rows[at])


def nothing(table):
    """What comes to nothing: a list of weights, one for each made row, by rising position."""
    rows = told_table(table)
    free = []
    found = []
    for at, row in enumerate(rows):
        rest, weights = _less_free(row, unit_weights(at, len(rows)), free)
        column = _first_place(rest)
        if column is None:
            found.append(weights)
        else:
            free.append((column, rest, weights))
    return found


def _less_free(row, weights, free):
    """A row less multiples of the free ones, so that it is 0 where these begin, and its weights."""
    rest = row
    told = weights
    for column, free_row, free_weights in free:
        by = rest[column].over(free_row[column])
        rest = [one - by * two for one, two in zip(rest, free_row)]
        told = [one - by * two for one, two in zip(told, free_weights)]
    return rest, told


def _first_place(row):
    for at, one in enumerate(row):
        if not one.is_nought:
            return at
    return None
