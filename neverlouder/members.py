"""Members of families: the boxes that do a telling, each by its free box, and the only box of some tellings."""

from neverlouder.boxes import Box, lowest_terms, need_box
from neverlouder.built import box_of_steps, steps_of_tolds
from neverlouder.curves import MOST_DEGREE, MOST_ENTRIES
from neverlouder.errors import NoMember, NotDone, TooMany
from neverlouder.family import family_of, need_choice
from neverlouder.made import does_tolds, kind_of
from neverlouder.steps import led_through
from neverlouder.tellings import told_telling


def member(telling, free):
    """The Box of a free box."""
    tolds = told_telling(telling)
    need_box(free)
    need_choice(tolds)
    return box_behind(family_of(tolds), free)


def box_behind(four, box):
    """The Box (a g + b) by (c g + d) of a box g; NoMember if there is none."""
    top, base = box.curves()
    upper, lower = led_through(four, top, base)
    found = lowest_terms(upper, lower)
    if found is None:
        raise NoMember()
    if max(len(found[0]), len(found[1])) > MOST_ENTRIES:
        raise TooMany("degree", MOST_DEGREE)
    return Box(found[0], found[1])


def free_of(telling, box):
    """The free Box of a box that does the telling."""
    tolds = told_telling(telling)
    need_box(box)
    need_choice(tolds)
    if not does_tolds(box, tolds):
        raise NotDone()
    a, b, c, d = family_of(tolds)
    return box_behind((d, _negative(b), _negative(c), a), box)


def _negative(curve):
    return [-one for one in curve]


def only_box(telling):
    """The only Box of a telling of the kind "one"; None for another kind."""
    tolds = told_telling(telling)
    if kind_of(tolds) != "one":
        return None
    return only_of(tolds)


def only_of(tolds, bound=1):
    """The only Box within a bound of a telling, told in Twins, that just one does."""
    return box_of_steps(steps_of_tolds(tolds, bound), bound)
