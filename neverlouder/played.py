"""Boxes that are played a row, and the force of rows."""

from neverlouder.boxes import need_box
from neverlouder.curves import product_of
from neverlouder.errors import InvalidRow
from neverlouder.ratios import Ratio
from neverlouder.series import quotient_numbers
from neverlouder.twins import are_values, as_twin

MOST_MOMENTS = 60


def told_row(row):
    """The row as Twins; InvalidRow unless it is one."""
    if not are_values(row, 0, MOST_MOMENTS):
        raise InvalidRow(row)
    return [as_twin(one) for one in row]


def answers(box, row):
    """What the box answers the row, a list of as many Twins."""
    need_box(box)
    return _answers_to(box, told_row(row))


def _answers_to(box, heard):
    top, base = box.curves()
    return quotient_numbers(product_of(top, heard), base, len(heard))


def force(row):
    """The sum of the sizes of the numbers of a row, a Ratio."""
    return Ratio.sum_of([one.size() for one in told_row(row)])


def is_softer(box, row):
    """Whether at each moment the force of the answers so far is at most that of the row so far."""
    need_box(box)
    heard = told_row(row)
    left = Ratio(0)
    for one, made in zip(heard, _answers_to(box, heard)):
        left = left + one.size() - made.size()
        if left.sign < 0:
            return False
    return True
