"""Texts: how values, tellings, boxes, steps, turns and weights are written."""

from neverlouder.boxes import Box, need_box
from neverlouder.built import is_steps
from neverlouder.errors import InvalidThing
from neverlouder.tellings import is_telling, told_telling
from neverlouder.turns import Turn
from neverlouder.twins import are_values, as_twin, is_value

MOST_WEIGHTS = 8


def value_word(number):
    """The word of a VALUE."""
    twin = as_twin(number)
    if twin.is_plain:
        return str(twin.plain)
    if twin.plain.sign == 0:
        return f"{twin.side}i"
    sign = "+" if twin.side.sign > 0 else "-"
    return f"{twin.plain}{sign}{twin.side.unsigned()}i"


def words_of(numbers):
    """The words of some VALUES, a list."""
    return [value_word(one) for one in numbers]


def _line(word, numbers):
    return " ".join([word] + words_of(numbers))


def telling_text(telling):
    """The text of a telling."""
    lines = [_line("told", [point] + answers) for point, answers in told_telling(telling)]
    return "\n".join(["telling"] + lines + ["end"])


def box_text(box):
    """The text of a Box."""
    need_box(box)
    top, base = box.curves()
    return "\n".join(["box", _line("top", top), _line("base", base), "end"])


def steps_text(steps):
    """The text of steps."""
    if not is_steps(steps):
        raise InvalidThing(steps)
    pairs, last = steps
    lines = [_line("step", pair) for pair in pairs]
    return "\n".join(["steps"] + lines + [_line("last", [last]), "end"])


def turn_text(turn):
    """The text of a Turn."""
    if not isinstance(turn, Turn):
        raise InvalidThing(turn)
    return _line("turn", turn.parts())


def weights_text(weights):
    """The text of weights."""
    if not are_values(weights, 1, MOST_WEIGHTS):
        raise InvalidThing(weights)
    return _line("weights", weights)


def text_of(thing):
    """The text of any of these; of a VALUE its word."""
    if isinstance(thing, Box):
        return box_text(thing)
    if isinstance(thing, Turn):
        return turn_text(thing)
    if is_telling(thing):
        return telling_text(thing)
    if is_steps(thing):
        return steps_text(thing)
    if is_value(thing):
        return value_word(thing)
    return weights_text(thing)
