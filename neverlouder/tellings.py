"""Tellings: lists of tuples (point, answers), which tell what a box makes of some tones."""

from neverlouder.basics import is_list
from neverlouder.errors import InvalidPoint, InvalidTelling, TooLoud, TooMany
from neverlouder.twins import Twin, are_values, as_twin, is_point

MOST_AT_POINT = 4
MOST_ANSWERS = 6


def told_telling(telling):
    """The telling as a new list of tuples (Twin, list of Twins); InvalidTelling, TooMany unless it is one."""
    if not is_list(telling) or len(telling) < 1:
        raise InvalidTelling(None)
    tolds = []
    for position, one in enumerate(telling):
        if not _is_told(one) or is_told_at(tolds, as_twin(one[0])):
            raise InvalidTelling(position)
        tolds.append((as_twin(one[0]), [as_twin(answer) for answer in one[1]]))
    need_few_answers(answers_in(tolds))
    return tolds


def is_telling(value):
    """Whether any value is a telling."""
    if not is_list(value) or len(value) < 1 or not all([_is_told(one) for one in value]):
        return False
    return are_unlike([as_twin(point) for point, _ in value]) and answers_in(value) <= MOST_ANSWERS


def are_unlike(points):
    """Whether no two of some Twins are the same."""
    return not any([point in points[:at] for at, point in enumerate(points)])


def _is_told(value):
    if not isinstance(value, tuple) or len(value) != 2:
        return False
    point, answers = value
    return is_point(point) and are_values(answers, 1, MOST_AT_POINT)


def need_few_answers(many):
    """Raise TooMany if these are more answers than a telling may have."""
    if many > MOST_ANSWERS:
        raise TooMany("answers", MOST_ANSWERS)


def answers_in(tolds):
    """How many answers are told, all together."""
    return sum([len(answers) for _, answers in tolds])


def answers_at(tolds, point):
    """The answers that are told at a point, a Twin; none where it is not told."""
    for place, answers in tolds:
        if place == point:
            return answers
    return []


def is_told_at(tolds, point):
    """Whether a point, a Twin, is told."""
    return answers_at(tolds, point) != []


def need_untold(tolds, point):
    """Raise InvalidPoint if the point, as it was passed, is told."""
    if is_told_at(tolds, as_twin(point)):
        raise InvalidPoint(point)


def need_not_loud(tolds):
    """Raise TooLoud with the position of the first told whose first answer is greater than 1 in size."""
    for position, (_, answers) in enumerate(tolds):
        if not answers[0].size().is_at_most(1):
            raise TooLoud(position)


def less_times(entries, number):
    """1 less the number times what the entries tell: as many entries."""
    found = [-(number * one) for one in entries]
    return [found[0] + 1] + found[1:]


def lower_blocks(lists):
    """For each list a block of as many rows, at (j, i) its Twin j - i, 0 above that and beside the blocks."""
    many = sum([len(one) for one in lists])
    rows = []
    ahead = 0
    for one in lists:
        for at in range(len(one)):
            behind = many - ahead - at - 1
            rows.append([Twin(0)] * ahead + one[at::-1] + [Twin(0)] * behind)
        ahead = ahead + len(one)
    return rows
