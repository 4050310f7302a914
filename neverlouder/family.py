"""Families: all boxes that do a telling, by the table of four curves that leads the free boxes to them."""

from neverlouder.curves import worth_at
from neverlouder.errors import NoChoice
from neverlouder.made import kind_of
from neverlouder.steps import led_through, step_curves, stepped_tolds
from neverlouder.tellings import need_untold, told_telling
from neverlouder.twins import as_point, as_twin


def family(telling):
    """The family of a telling that many boxes do: a tuple of four told curves (a, b, c, d)."""
    tolds = told_telling(telling)
    need_choice(tolds)
    return family_of(tolds)


def need_choice(tolds):
    """Raise NoChoice unless many boxes do the telling."""
    if kind_of(tolds) != "many":
        raise NoChoice()


def family_of(tolds, bound=1):
    """The family of a telling that is told in Twins, and that many boxes within the bound do."""
    tables = []
    left = tolds
    while left:
        point, answers = left[0]
        tables.append(step_curves(point, answers[0], bound))
        left = stepped_tolds(left, bound)
    found = tables[-1]
    for four in tables[-2::-1]:
        found = _one_behind(four, found)
    return found


def _one_behind(four, other):
    """The table of four curves, and then another one."""
    p, q, r, s = other
    a, c = led_through(four, p, r)
    b, d = led_through(four, q, s)
    return a, b, c, d


def worths_of(four, point):
    """The worths of four curves at a point, a tuple of Twins."""
    a, b, c, d = four
    return worth_at(a, point), worth_at(b, point), worth_at(c, point), worth_at(d, point)


def free_at(telling, point, number):
    """What is asked of the free box at a point, a Twin; None where a = c v."""
    tolds = told_telling(telling)
    place = as_point(point)
    wanted = as_twin(number)
    need_untold(tolds, point)
    need_choice(tolds)
    return asked_of_free(family_of(tolds), place, wanted)


def asked_of_free(four, place, wanted):
    """What the family asks of the free box at a place, a Twin; None if no free box leads to this worth."""
    a, b, c, d = worths_of(four, place)
    below = a - c * wanted
    if below.is_nought:
        return None
    return (d * wanted - b).over(below)
