"""Steps as papers: tuples (list of tuples (point, number), last), and their boxes."""

from neverlouder.basics import is_list
from neverlouder.boxes import Box
from neverlouder.curves import trimmed
from neverlouder.errors import InvalidSteps
from neverlouder.made import does_tolds
from neverlouder.ratios import as_ratio
from neverlouder.steps import can_step, led_through, step_curves, stepped_tolds
from neverlouder.tellings import told_telling
from neverlouder.twins import Twin, as_twin, is_point, is_value

MOST_STEPS = 24


def is_steps(value):
    """Whether any value is steps."""
    return are_steps(value, 1)


def are_steps(value, bound):
    """Whether any value is steps within a bound."""
    if not isinstance(value, tuple) or len(value) != 2:
        return False
    pairs, last = value
    if not is_list(pairs) or len(pairs) > MOST_STEPS:
        return False
    if not is_value(last) or not as_twin(last).size().is_at_most(bound):
        return False
    return all([is_link(one, bound) for one in pairs])


def is_link(value, bound=1):
    """Whether any value is a tuple (point, number), the number's size below the bound."""
    if not isinstance(value, tuple) or len(value) != 2:
        return False
    point, number = value
    return is_point(point) and is_value(number) and as_twin(number).size().is_below(bound)


def box_of(steps):
    """The Box of steps."""
    return box_of_steps(steps, 1)


def box_of_steps(steps, bound):
    """The Box of steps within a bound; InvalidSteps unless they are such."""
    if not are_steps(steps, bound):
        raise InvalidSteps(steps)
    pairs, last = steps
    top = [as_twin(last)]
    base = [Twin(1)]
    for point, number in pairs[::-1]:
        top, base = led_through(step_curves(as_twin(point), as_twin(number), bound), top, base)
    return Box(top, base)


def steps_of(telling):
    """The steps by the telling's step sequence; None if it is not doable."""
    return steps_of_tolds(told_telling(telling))


def steps_of_tolds(tolds, bound=1):
    """The steps of a telling that is told in Twins; None if it is not doable within the bound."""
    pairs = []
    left = tolds
    while left and can_step(left, bound):
        point, answers = left[0]
        pairs.append((point, answers[0]))
        left = stepped_tolds(left, bound)
    if not left:
        return pairs, Twin(0)
    number = left[0][1][0]
    if number.size() != as_ratio(bound) or not _tells_constant(left, number):
        return None
    return pairs, number


def _tells_constant(tolds, number):
    return all([trimmed(answers) == [number] for _, answers in tolds])


def shows(telling, value):
    """Whether any value is steps whose box does the telling."""
    return are_showing(told_telling(telling), 1, value)


def are_showing(tolds, bound, value):
    """Whether any value is steps within a bound whose box does a telling that is told in Twins."""
    return are_steps(value, bound) and does_tolds(box_of_steps(value, bound), tolds)
