"""Steps, boxes and spots within a bound."""

from neverlouder.bounds import as_bound
from neverlouder.built import are_showing, are_steps, box_of_steps, steps_of_tolds
from neverlouder.spots import is_at_spot, spot_at
from neverlouder.tellings import told_telling
from neverlouder.twins import as_point, as_twin


def is_steps_within(bound, value):
    """Whether any value is steps within the bound."""
    return are_steps(value, as_bound(bound))


def box_of_within(bound, steps):
    """The Box of steps within the bound."""
    return box_of_steps(steps, as_bound(bound))


def steps_within(telling, bound):
    """The steps of the telling within the bound; None if it is not doable within it."""
    tolds = told_telling(telling)
    return steps_of_tolds(tolds, as_bound(bound))


def box_within(telling, bound):
    """A Box within the bound that does the telling; None without one."""
    found = steps_within(telling, bound)
    if found is None:
        return None
    return box_of_within(bound, found)


def shows_within(telling, bound, value):
    """Whether any value is steps within the bound whose box does the telling."""
    tolds = told_telling(telling)
    return are_showing(tolds, as_bound(bound), value)


def spot_within(telling, point, bound):
    """The tuple of the middle and the half width squared of what boxes within the bound make of a point."""
    tolds = told_telling(telling)
    place = as_point(point)
    return spot_at(tolds, place, as_bound(bound))


def is_in_spot_within(telling, point, bound, number):
    """Whether the number is in the spot within the bound at the point."""
    tolds = told_telling(telling)
    place = as_point(point)
    most = as_bound(bound)
    wanted = as_twin(number)
    return is_at_spot(spot_at(tolds, place, most), wanted)
