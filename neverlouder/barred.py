"""Bars of tellings: mixtures of the tones that would come out louder than they go in."""

from neverlouder.bars import bar, is_bar
from neverlouder.curves import product_of
from neverlouder.made import made_rows, made_table
from neverlouder.series import quotient_numbers
from neverlouder.squares import without
from neverlouder.steps import need_step
from neverlouder.tables import dot, told_weights
from neverlouder.tellings import less_times, lower_blocks, told_telling
from neverlouder.twins import Twin


def rest_table(telling):
    """The rest table: the made table behind its first step, without its first row and column."""
    tolds = told_telling(telling)
    need_step(tolds)
    rows = without(made_rows(tolds, 1), 0)
    return [row[1:] for row in rows[1:]]


def leading_table(telling):
    """The leading table: a row for each tone but the first, a column for each of the stepped telling's."""
    tolds = told_telling(telling)
    need_step(tolds)
    return _leading_rows(tolds)


def _leading_rows(tolds):
    place, answers = tolds[0]
    lists = [_leading_entries(point, entries, place, answers[0]) for point, entries in tolds]
    # At the first point the entries begin with 0, and the first tone has no row.
    lists[0] = lists[0][1:]
    return lower_blocks(lists)


def _leading_entries(point, entries, place, number):
    """The first entries, near the point, of (x - z) (1 - w' f) by (1 - z' x)."""
    upper = product_of([point - place, Twin(1)], less_times(entries, number.mirror()))
    lower = less_times([point, Twin(1)], place.mirror())
    return quotient_numbers(upper, lower, len(entries))


def led_back(telling, weights):
    """Weights of the stepped telling led back to weights of the telling."""
    tolds = told_telling(telling)
    need_step(tolds)
    rows = _leading_rows(tolds)
    found = _row_before(told_weights(weights, len(rows)), rows)
    made = made_rows(tolds, 1)
    column = [row[0] for row in made]
    return [-dot(found, column[1:]).over(column[0])] + found


def _row_before(row, rows):
    """The row whose product with a table without values above (i, i), none of these 0, is this row."""
    found = []
    for at in reversed(range(len(row))):
        taken = dot(found, [line[at] for line in rows[at + 1:]])
        found = [(row[at] - taken).over(rows[at][at])] + found
    return found


def bar_of(telling):
    """A bar of the telling, a list of Twins; None if it is doable."""
    return bar(made_table(telling))


def is_bar_of(telling, value):
    """Whether any value is a bar of the telling."""
    return is_bar(made_table(telling), value)
