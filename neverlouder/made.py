"""Made tables of tellings: what of a mixture of tones goes in, less what comes out."""

from neverlouder.basics import is_count, is_list
from neverlouder.boxes import need_box
from neverlouder.curves import worth_at
from neverlouder.errors import InvalidMany, InvalidPoints
from neverlouder.squares import steps_above
from neverlouder.tables import form_of, is_all_nought, shared, told_weights
from neverlouder.tellings import (
    MOST_ANSWERS, MOST_AT_POINT, answers_in, are_unlike, lower_blocks, need_few_answers, told_telling,
)
from neverlouder.tones import force_rows
from neverlouder.twins import as_twin, is_point


def made_table(telling):
    """The made table of a telling."""
    return made_rows(told_telling(telling), 1)


def made_rows(tolds, bound):
    """The bound times the force table, less the table of what comes out: the made table for the bound 1."""
    force = force_rows(tolds)
    return less_out(force, out_rows(force, tolds), bound)


def less_out(force, out, bound):
    """The bound times one table, less another one."""
    return [[one * bound - two for one, two in zip(up, down)] for up, down in zip(force, out)]


def out_rows(force, tolds):
    """The table of what comes out: the answers' table times the force table times the former's turned mirror."""
    return shared(force, lower_blocks([answers for _, answers in tolds]))


def mixture_in(telling, weights):
    """The force of a mixture of the tones, up to moment 0, a Ratio."""
    tolds = told_telling(telling)
    return form_of(force_rows(tolds), told_weights(weights, answers_in(tolds)))


def mixture_out(telling, weights):
    """The force of what comes out of a mixture of the tones, up to moment 0, a Ratio."""
    tolds = told_telling(telling)
    row = told_weights(weights, answers_in(tolds))
    return form_of(out_rows(force_rows(tolds), tolds), row)


def does(box, telling):
    """Whether the box does the telling."""
    need_box(box)
    return does_tolds(box, told_telling(telling))


def does_tolds(box, tolds):
    """Whether the box does a telling that is told in Twins."""
    return all([_does_told(box, point, answers) for point, answers in tolds])


def _does_told(box, point, answers):
    if worth_at(box.curves()[1], point).is_nought:
        return False
    return box.around(point, len(answers)) == answers


def telling_of(box, points, many):
    """What the box does at these points, so many answers each, as a telling."""
    need_box(box)
    if not _are_points(points):
        raise InvalidPoints(points)
    if not is_count(many) or many < 1 or many > MOST_AT_POINT:
        raise InvalidMany(many)
    need_few_answers(many * len(points))
    return [(as_twin(point), box.around(point, many)) for point in points]


def _are_points(value):
    """Whether any value is a list of 1 to 6 unlike POINTS."""
    if not is_list(value) or len(value) < 1 or len(value) > MOST_ANSWERS:
        return False
    if not all([is_point(one) for one in value]):
        return False
    return are_unlike([as_twin(one) for one in value])


def is_doable(telling):
    """Whether some box that is never louder does the telling."""
    return kind(telling) != "none"


def kind(telling):
    """How many boxes that are never louder do the telling: "none", "one" or "many"."""
    return kind_of(told_telling(telling))


def kind_of(tolds, bound=1):
    """How many boxes within a bound do a telling that is told in Twins: its kind for the bound 1."""
    return kind_of_rows(made_rows(tolds, bound))


def kind_of_rows(rows):
    """The kind of a telling with this made table."""
    steps, rest = steps_above(rows)
    if not is_all_nought(rest):
        return "none"
    return "one" if len(steps) < len(rest) else "many"
