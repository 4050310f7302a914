"""Steps as papers: tuples (list of tuples (point, number), last), and their boxes."""

from neverlouder.basics import is_list
from neverlouder.boxes import Box
from neverlouder.curves import trimmed
from neverlouder.errors import InvalidSteps
from neverlouder.made import does_tolds
from neverlouder.ratios import Ratio
from neverlouder.steps import can_step, led_through, step_curves, stepped_tolds
from neverlouder.tellings import told_telling
from neverlouder.twins import Twin, as_twin, is_point, is_unit

MOST_STEPS = 24


def is_steps(value):
    """Whether any value is steps."""
    if not isinstance(value, tuple) or len(value) != 2:
        return False
    pairs, last = value
    if not is_list(pairs) or len(pairs) > MOST_STEPS:
        return False
    return all([_is_step(one) for one in pairs]) and (is_point(last) or is_unit(last))


def _is_step(value):
    # The number of a step is a VALUE of a size below 1, too.
    return isinstance(value, tuple) and len(value) == 2 and all([is_point(one) for one in value])


def box_of(steps):
    """The Box of steps."""
    if not is_steps(steps):
        raise InvalidSteps(steps)
    pairs, last = steps
    top = [as_twin(last)]
    base = [Twin(1)]
    for point, number in pairs[::-1]:
        top, base = led_through(step_curves(as_twin(point), as_twin(number)), top, base)
    return Box(top, base)


def steps_of(telling):
    """The steps by the telling's step sequence; None if it is not doable."""
    return steps_of_tolds(told_telling(telling))


def steps_of_tolds(tolds):
    """The steps of a telling that is told in Twins; None if it is not doable."""
    pairs = []
    left = tolds
    while left and can_step(left):
        point, answers = left[0]
        pairs.append((point, answers[0]))
        left = stepped_tolds(left)
    if not left:
        return pairs, Twin(0)
    number = left[0][1][0]
    if number.size() != Ratio(1) or not _tells_constant(left, number):
        return None
    return pairs, number


def _tells_constant(tolds, number):
    return all([trimmed(answers) == [number] for _, answers in tolds])


def shows(telling, value):
    """Whether any value is steps whose box does the telling."""
    tolds = told_telling(telling)
    return is_steps(value) and does_tolds(box_of(value), tolds)
