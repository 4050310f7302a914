"""Tones: rows without a beginning, that swell up to moment 0, and the force of their mixtures."""

from math import comb

from neverlouder.basics import need_count_to
from neverlouder.tellings import told_telling
from neverlouder.twins import Twin, as_point

MOST_MOMENTS = 60
MOST_TIMES = 3


def tone(point, many, times):
    """The last numbers of the tone of a point, the one of moment 0 last."""
    at = as_point(point)
    need_count_to(many, MOST_MOMENTS)
    need_count_to(times, MOST_TIMES)
    found = [Twin(0)] * min(many, times)
    power = Twin(1)
    for ahead in range(times, many):
        found.append(power * comb(ahead, times))
        power = power * at
    return found[::-1]


def force_table(telling):
    """The force table of a telling."""
    return force_rows(told_telling(telling))


def force_rows(tolds):
    """The force table of a telling that is told in Twins."""
    tones = [(point, times) for point, answers in tolds for times in range(len(answers))]
    return [[_force_entry(one, two) for two in tones] for one in tones]


def _force_entry(first, second):
    """The sum, over all moments up to 0, of one tone's number times the other one's mirror."""
    point, many = first
    other = second[0].mirror()
    more = second[1]
    below = 1 - point * other
    found = Twin(0)
    for m in range(min(many, more) + 1):
        ways = comb(many + more - m, m) * comb(many + more - 2 * m, many - m)
        above = other.power(many - m) * point.power(more - m)
        found = found + (above * ways).over(below.power(many + more - m + 1))
    return found
