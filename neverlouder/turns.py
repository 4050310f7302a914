"""Turns of the disc, and boxes and tellings that are moved by them."""

from neverlouder.boxes import Box, need_box
from neverlouder.curves import added, padded, product_of, put_curve
from neverlouder.errors import InvalidNumber, InvalidTurn, InvalidUnit, NoWorth, SamePoint
from neverlouder.series import quotient_numbers
from neverlouder.tellings import less_times, need_not_loud, told_telling
from neverlouder.twins import Twin, as_point, as_twin, is_point, is_unit


class Turn:
    """The turn that leads x to c (x - p) by (1 - p' x), c its number, p its point; it never changes."""

    def __init__(self, number, point):
        if not is_unit(number):
            raise InvalidUnit(number)
        self._point = as_point(point)
        self._number = as_twin(number)

    def parts(self):
        """The tuple of the number and the point, two Twins."""
        return self._number, self._point

    def at(self, number):
        """To what a number of a size up to 1 is led."""
        if not is_point(number) and not is_unit(number):
            raise InvalidNumber(number)
        above = self._number * (as_twin(number) - self._point)
        return above.over(1 - self._point.mirror() * number)

    def back(self):
        """The Turn undone."""
        return Turn(self._number.mirror(), -self._number * self._point)

    def behind(self, turn):
        """The Turn that leads x to where this one leads what the passed one leads x to."""
        number, point = parts_of(turn)
        together = number + self._point * point.mirror()
        mirrored = 1 + self._point.mirror() * number * point
        return Turn((self._number * together).over(mirrored), (number * point + self._point).over(together))

    def __eq__(self, other):
        return isinstance(other, Turn) and self._number == other._number and self._point == other._point

    def __repr__(self):
        return f"Turn({self._number}, {self._point})"


def parts_of(turn):
    """The tuple of a turn's number and point; InvalidTurn unless it is a Turn."""
    if not isinstance(turn, Turn):
        raise InvalidTurn(turn)
    return turn.parts()


def box_put(box, turn):
    """The Box put behind the turn."""
    need_box(box)
    number, point = parts_of(turn)
    top, base = box.curves()
    above = [-number * point, number]
    below = less_times([Twin(0), Twin(1)], point.mirror())
    lower = put_curve(base, box.degree, above, below)
    if lower[0].is_nought:
        raise NoWorth(turn.at(0))
    return Box(put_curve(top, box.degree, above, below), lower)


def box_moved(box, turn):
    """The Box moved by the turn."""
    need_box(box)
    number, point = parts_of(turn)
    top, base = box.curves()
    upper = added(top, [-(point * one) for one in base])
    lower = added(base, [-(point.mirror() * one) for one in top])
    if not lower or lower[0].is_nought:
        raise NoWorth(0)
    return Box([number * one for one in upper], lower)


def moved_telling(telling, turn):
    """The put form of the telling: a box put behind the turn does it just if the box does the telling."""
    tolds = told_telling(telling)
    number, point = parts_of(turn)
    back = turn.back()
    found = []
    for place, answers in tolds:
        goal = back.at(place)
        # Near the goal the turn goes on from the place with these entries.
        entries = _turned_entries([goal, Twin(1)], number, point, len(answers))
        found.append((goal, _put_in(answers, entries)))
    return found


def _turned_entries(entries, number, point, many):
    """The first so many entries of what the turn leads a series to that is told by entries."""
    upper = [number * one for one in added(entries, [-point])]
    return quotient_numbers(upper, less_times(entries, point.mirror()), many)


def _put_in(answers, entries):
    """The answers of a series at a number, another series that begins there put into it."""
    many = len(answers)
    way = [Twin(0)] + entries[1:]
    found = []
    for one in answers[::-1]:
        found = added(product_of(found, way)[:many], [one])
    return padded(found, many)


def answers_moved(telling, turn):
    """The moved form of the telling: the moved box does it just if the box does the telling."""
    tolds = told_telling(telling)
    number, point = parts_of(turn)
    need_not_loud(tolds)
    return [(place, _turned_entries(entries, number, point, len(entries))) for place, entries in tolds]


def turn_by(point, other_point, goal, other_goal):
    """The Turn that leads two points to two goals; None if there is none."""
    place = as_point(point)
    other_place = as_point(other_point)
    wanted = as_point(goal)
    other_wanted = as_point(other_goal)
    if place == other_place:
        raise SamePoint()
    # Both first ones are led to 0: what is left is a number of size 1, if both others are as far away.
    way = Turn(1, place).at(other_place)
    other_way = Turn(1, wanted).at(other_wanted)
    if way.size() != other_way.size():
        return None
    return Turn(1, wanted).back().behind(Turn(other_way.over(way), place))
