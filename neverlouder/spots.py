"""Spots: what boxes that are never louder and do a telling may make of one tone more."""

from neverlouder.boxes import Box
from neverlouder.curves import added, moved, product_of
from neverlouder.errors import InvalidPoint, NotDoable, NotOnRim
from neverlouder.family import asked_of_free, family_of, worths_of
from neverlouder.made import kind_of
from neverlouder.members import box_behind, only_of
from neverlouder.ratios import Ratio
from neverlouder.series import quotient_at
from neverlouder.tellings import MOST_AT_POINT, answers_at, need_untold, told_telling
from neverlouder.twins import as_point, as_twin


def _doable_kind(tolds, bound=1):
    """The kind of a telling within a bound; NotDoable if it is not doable."""
    found = kind_of(tolds, bound)
    if found == "none":
        raise NotDoable()
    return found


def spot(telling, point):
    """The tuple of the middle and the half width squared of the spot at a point."""
    tolds = told_telling(telling)
    return spot_at(tolds, as_point(point))


def spot_at(tolds, place, bound=1):
    """The spot within a bound, at a Twin, of a telling that is told in Twins."""
    if _doable_kind(tolds, bound) == "one":
        return only_of(tolds, bound).worth(place), Ratio(0)
    return round_image(worths_of(family_of(tolds, bound), place), bound)


def round_image(four, bound=1):
    """The middle and the half width squared of all (a g + b) by (c g + d), g of a size up to the bound."""
    a, b, c, d = four
    below = d.size() - c.size() * bound
    middle = (b * d.mirror() - a * c.mirror() * bound).over(below)
    return middle, ((a * d - b * c).size() * bound).over(below * below)


def is_at_spot(spot_there, wanted):
    """Whether a Twin is in a spot, told by its middle and its half width squared."""
    middle, square = spot_there
    return (wanted - middle).size().is_at_most(square)


def next_spot(telling, point):
    """The spot of the next answer at a point that is told with at most 3 answers."""
    tolds = told_telling(telling)
    place = as_point(point)
    many = len(answers_at(tolds, place))
    if many == 0 or many == MOST_AT_POINT:
        raise InvalidPoint(point)
    if _doable_kind(tolds) == "one":
        return only_of(tolds).around(place, many + 1)[many], Ratio(0)
    return round_image(_next_worths(family_of(tolds), place, many))


def _next_worths(four, place, many):
    """The numbers that lead the free box's worth at the place to the next answer there."""
    a, b, c, d = four
    middle = quotient_at(b, d, place, many + 1)[many]
    less = [-one for one in product_of(b, c)]
    factor = moved(added(product_of(a, d), less), place)[many]
    _, _, low, high = worths_of(four, place)
    return middle * high * low + factor, middle * high * high, high * low, high * high


def is_in_spot(telling, point, number):
    """Whether the number is in the spot at the point."""
    tolds = told_telling(telling)
    place = as_point(point)
    wanted = as_twin(number)
    return is_at_spot(spot_at(tolds, place), wanted)


def is_on_rim(telling, point, number):
    """Whether the number is on the rim of the spot at the point."""
    tolds = told_telling(telling)
    place = as_point(point)
    return _is_on_rim_at(tolds, place, as_twin(number))


def _is_on_rim_at(tolds, place, wanted):
    middle, square = spot_at(tolds, place)
    return (wanted - middle).size() == square


def on_rim_box(telling, point, number):
    """The one Box that does the telling and has this worth, on the rim of the spot, at the point."""
    tolds = told_telling(telling)
    place = as_point(point)
    wanted = as_twin(number)
    need_untold(tolds, point)
    which = _doable_kind(tolds)
    if not _is_on_rim_at(tolds, place, wanted):
        raise NotOnRim()
    if which == "one":
        return only_of(tolds)
    four = family_of(tolds)
    return box_behind(four, Box([asked_of_free(four, place, wanted)], [1]))


def goes_with(telling, point, number, other_point, other_number):
    """Whether one box that is never louder does the telling and has both worths at both points."""
    tolds = told_telling(telling)
    place = as_point(point)
    wanted = as_twin(number)
    other_place = as_point(other_point)
    other_wanted = as_twin(other_number)
    need_untold(tolds, point)
    need_untold(tolds + [(place, [wanted])], other_point)
    if _doable_kind(tolds) == "one":
        only = only_of(tolds)
        return only.worth(place) == wanted and only.worth(other_place) == other_wanted
    four = family_of(tolds)
    first = asked_of_free(four, place, wanted)
    second = asked_of_free(four, other_place, other_wanted)
    if first is None or second is None:
        return False
    return kind_of([(place, [first]), (other_place, [second])]) != "none"
