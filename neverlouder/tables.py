"""Mirrored tables: lists of rows, the value (i, j) the mirror of the value (j, i)."""

from neverlouder.basics import is_count, is_list
from neverlouder.errors import InvalidPositions, InvalidRows, InvalidTable, InvalidWeights, UnlikeSizes
from neverlouder.ratios import as_ratio
from neverlouder.twins import Twin, are_values, as_twin

MOST_ROWS = 8


def is_table(value):
    """Whether any value is a TABLE."""
    if not is_list(value) or len(value) < 1 or len(value) > MOST_ROWS:
        return False
    if not all([is_weights(row, len(value)) for row in value]):
        return False
    rows = twin_rows(value)
    return rows == turned_mirror(rows)


def is_weights(value, many):
    """Whether any value is a list of just so many VALUES."""
    return are_values(value, many, many)


def twin_rows(rows):
    """Lists of lists of VALUES as new lists of lists of Twins."""
    return [[as_twin(one) for one in row] for row in rows]


def turned_mirror(rows):
    """The rows with the mirror of (j, i) at (i, j), for rows that are all alike long."""
    return [[row[at].mirror() for row in rows] for at in range(len(rows[0]))]


def told_table(table):
    """The table as lists of Twins; InvalidTable unless it is one."""
    if not is_table(table):
        raise InvalidTable(table)
    return twin_rows(table)


def told_weights(weights, many):
    """So many weights as Twins; InvalidWeights unless they are such."""
    if not is_weights(weights, many):
        raise InvalidWeights(weights)
    return [as_twin(one) for one in weights]


def is_all_nought(rows):
    """Whether all values of a table of Twins are 0."""
    return all([one.is_nought for row in rows for one in row])


def unit_weights(at, many):
    """So many weights, 1 at one position and 0 elsewhere."""
    return [Twin(1 if k == at else 0) for k in range(many)]


def form(table, weights):
    """The form of weights, a Ratio."""
    rows = told_table(table)
    return form_of(rows, told_weights(weights, len(rows)))


def form_of(rows, weights):
    """The form of weights that are Twins, of a table of Twins."""
    sums = [dot(row, [one.mirror() for one in weights]) for row in rows]
    return dot(weights, sums).plain


def dot(first, second):
    """The sum of the products of two lists of Twins, one by one."""
    return Twin.total([one * two for one, two in zip(first, second)])


def plus_tables(table, other):
    """The sum of two tables."""
    first, second = _told_alike(table, other)
    return [[one + two for one, two in zip(up, down)] for up, down in zip(first, second)]


def entry_product(table, other):
    """The products of the values of two tables, place by place."""
    first, second = _told_alike(table, other)
    return [[one * two for one, two in zip(up, down)] for up, down in zip(first, second)]


def _told_alike(table, other):
    first = told_table(table)
    second = told_table(other)
    if len(first) != len(second):
        raise UnlikeSizes(len(first), len(second))
    return first, second


def times_table(table, ratio):
    """The table times a Ratio."""
    rows = told_table(table)
    by = as_ratio(ratio)
    return [[one * by for one in row] for row in rows]


def shared(table, rows):
    """The table shared by some rows of weights."""
    values = told_table(table)
    if not is_list(rows) or len(rows) < 1 or len(rows) > MOST_ROWS:
        raise InvalidRows(rows)
    if not all([is_weights(row, len(values)) for row in rows]):
        raise InvalidRows(rows)
    weights = twin_rows(rows)
    # values times the mirrored weights stand by (k, second row) here.
    sums = [[dot(line, [one.mirror() for one in row]) for row in weights] for line in values]
    columns = [[row[at] for row in sums] for at in range(len(weights))]
    return [[dot(row, column) for column in columns] for row in weights]


def picked(table, positions):
    """The table picked by positions."""
    rows = told_table(table)
    if not _are_positions(positions, len(rows)):
        raise InvalidPositions(positions)
    return [[rows[i][j] for j in positions] for i in positions]


def _are_positions(value, many):
    if not is_list(value) or len(value) < 1:
        return False
    if not all([is_count(one) and one < many for one in value]):
        return False
    return len({one for one in value}) == len(value)
