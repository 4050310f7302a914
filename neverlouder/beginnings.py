"""Beginnings: the first answers to a knock, and the numbers by which they are told step by step."""

from neverlouder.basics import need_count_to
from neverlouder.boxes import need_box
from neverlouder.built import box_of
from neverlouder.errors import InvalidNumber, InvalidNumbers, InvalidRow, NotDoable
from neverlouder.ratios import Ratio
from neverlouder.series import quotient_numbers
from neverlouder.tellings import less_times
from neverlouder.twins import are_values, as_twin, is_point, is_unit

MOST_NUMBERS = 12


def _told_beginning(row):
    if not are_values(row, 1, MOST_NUMBERS):
        raise InvalidRow(row)
    return [as_twin(one) for one in row]


def knocks_let(row):
    """Whether some box that is never louder begins so."""
    return _let_parameters(_told_beginning(row)) is not None


def _let_parameters(entries):
    """The parameters of a beginning; None if it is not let."""
    found, left = _taken(entries)
    last = found[-1].size()
    if last.is_below(1):
        return found
    if last == Ratio(1) and all([one.is_nought for one in left[1:]]):
        return found
    return None


def _taken(entries):
    """The parameters of a beginning, and the beginning to which the last one belongs."""
    left = entries
    found = [left[0]]
    while found[-1].size().is_below(1) and len(left) > 1:
        lower = less_times(left, left[0].mirror())
        left = quotient_numbers(left[1:], lower, len(left) - 1)
        found.append(left[0])
    return found, left


def schur_of(row):
    """The parameters of a beginning, a list of Twins."""
    return _taken(_told_beginning(row))[0]


def schur(box, many):
    """The first parameters of a box at 0, at most so many."""
    need_box(box)
    need_count_to(many, MOST_NUMBERS)
    if many == 0:
        return []
    return _taken(box.knock(many))[0]


def from_schur(numbers, last):
    """The Box with these parameters, numbers below 1 in size and a last one of a size up to 1."""
    if not are_values(numbers, 0, MOST_NUMBERS) or not all([is_point(one) for one in numbers]):
        raise InvalidNumbers(numbers)
    if not is_point(last) and not is_unit(last):
        raise InvalidNumber(last)
    return box_of(([(0, one) for one in numbers], last))


def next_knock(row):
    """The tuple of the middle and the half width of the next numbers with which the beginning is let."""
    entries = _told_beginning(row)
    found = _let_parameters(entries)
    if found is None:
        raise NotDoable()
    width = Ratio(1)
    for one in found:
        width = width * (1 - one.size())
    last = 0
    if width.sign == 0:
        last = found[-1]
        found = found[:-1]
    many = len(entries)
    return from_schur(found, last).knock(many + 1)[many], width
