"""Choices: which tolds of a telling are doable together, and what is left out."""

from neverlouder.basics import is_count, is_list
from neverlouder.made import kind_of
from neverlouder.tellings import told_telling


def is_doable_lot(telling, value):
    """Whether any value is a doable lot: rising positions of tolds that one never louder box does."""
    tolds = told_telling(telling)
    return _is_lot(value, len(tolds)) and _is_doable(tolds, value)


def _is_lot(value, many):
    if not is_list(value) or not all([is_count(one) and one < many for one in value]):
        return False
    return all([value[at] < value[at + 1] for at in range(len(value) - 1)])


def _is_doable(tolds, lot):
    return len(lot) == 0 or kind_of([tolds[at] for at in lot]) != "none"


def greatest_lots(telling):
    """The sorted list of the doable lots to which no position can be added."""
    lots = _doable_lots(told_telling(telling))
    return sorted([lot for lot in lots if not any([_is_part(lot, other) for other in lots])])


def _doable_lots(tolds):
    """All doable lots: each part of one is one, so they grow by one position at a time."""
    found = [[]]
    for at in range(len(tolds)):
        found = found + [lot + [at] for lot in found if _is_doable(tolds, lot + [at])]
    return found


def _is_part(lot, other):
    """Whether the other lot has all of these positions, and more."""
    return len(lot) < len(other) and all([at in other for at in lot])


def fewest_out(telling):
    """The least one of the shortest lists of positions without which the others are a doable lot."""
    tolds = told_telling(telling)
    outs = []
    for lot in _doable_lots(tolds):
        outs.append([at for at in range(len(tolds)) if at not in lot])
    fewest = min([len(out) for out in outs])
    return min([out for out in outs if len(out) == fewest])
