"""Keepers: never louder boxes that keep all force."""

from neverlouder.basics import is_list
from neverlouder.boxes import Box, need_box
from neverlouder.curves import product_of, quotient_and_rest, told, turned
from neverlouder.discs import is_steady_curve
from neverlouder.errors import InvalidPoints, InvalidUnit, NotKeeper, NotNought, NotOne, NotSteady
from neverlouder.made import kind_of
from neverlouder.members import only_of
from neverlouder.rims import MOST_DEGREE, need_degree, rim_entries
from neverlouder.steps import step_curves
from neverlouder.tellings import told_telling
from neverlouder.twins import Twin, as_point, as_twin, is_point, is_unit

MOST_NOUGHTS = 8


def is_keeper(box):
    """Whether the box is a keeper."""
    need_box(box)
    need_degree(box.degree, MOST_DEGREE)
    return is_steady_curve(box.curves()[1]) and rim_entries(box) == []


def _as_unit(number):
    if not is_unit(number):
        raise InvalidUnit(number)
    return as_twin(number)


def keeper(curve, number):
    """The keeper that is the number times the curve's turned one over the curve."""
    entries = told(curve)
    unit = _as_unit(number)
    last = len(entries) - 1
    need_degree(last, MOST_DEGREE)
    if not is_steady_curve(entries):
        raise NotSteady()
    return Box([one * unit for one in turned(entries, last)], entries)


def keeper_of(points, number):
    """The keeper with these noughts."""
    if not is_list(points) or len(points) > MOST_NOUGHTS or not all([is_point(one) for one in points]):
        raise InvalidPoints(points)
    top = [_as_unit(number)]
    base = [Twin(1)]
    for point in points:
        above, _, _, below = step_curves(as_twin(point), Twin(0))
        top = product_of(top, above)
        base = product_of(base, below)
    return Box(top, base)


def noughts(box):
    """How many noughts a keeper has within the rim."""
    if not is_keeper(box):
        raise NotKeeper()
    return box.degree


def without_nought(box, point):
    """The Box over (x - point) by (1 - point' x), of a box whose worth at the point is 0."""
    need_box(box)
    place = as_point(point)
    if not box.worth(point).is_nought:
        raise NotNought()
    top, base = box.curves()
    above, _, _, below = step_curves(place, Twin(0))
    return Box(product_of(quotient_and_rest(top, above)[0], below), base)


def keeper_by(telling):
    """The keeper that does a telling of the kind "one"."""
    tolds = told_telling(telling)
    if kind_of(tolds) != "one":
        raise NotOne()
    return only_of(tolds)
