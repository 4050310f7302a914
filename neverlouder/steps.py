"""Steps: a number of a telling, or of a box, is taken off, and what is left is one less; and back."""

from neverlouder.basics import need_count
from neverlouder.boxes import box_of_curves, need_box
from neverlouder.curves import added, product_of, quotient_and_rest, trimmed
from neverlouder.errors import InvalidNumber, NoStep
from neverlouder.series import quotient_numbers
from neverlouder.tellings import less_times, told_telling
from neverlouder.twins import Twin, as_point, as_twin, is_point


def sequence(telling):
    """The step sequence: each point as often as it has answers."""
    return [point for point, answers in told_telling(telling) for _ in answers]


def can_step(tolds, bound=1):
    """Whether a step can be taken within a bound; the tolds are at least one."""
    firsts = [answers[0].size() for _, answers in tolds]
    return firsts[0].is_below(bound) and all([one.is_at_most(bound) for one in firsts[1:]])


def need_step(tolds):
    """Raise NoStep unless answers are left and a step can be taken."""
    if not tolds or not can_step(tolds):
        raise NoStep()


def step(telling):
    """The tuple of the point, the number and the stepped telling, None in its place if no answer is left."""
    tolds = told_telling(telling)
    need_step(tolds)
    point, answers = tolds[0]
    return point, answers[0], stepped_tolds(tolds) or None


def stepped_tolds(tolds, bound=1):
    """The tolds behind a step that can be taken within a bound, perhaps none."""
    place, answers = tolds[0]
    mirror = answers[0].mirror().over(bound)
    found = []
    for point, entries in tolds:
        left = _stepped_answers(point, entries, place, answers[0], mirror)
        if left:
            found.append((point, left))
    return found


def _stepped_answers(point, entries, place, number, mirror):
    """The first entries, near the point, of what a box with these entries is stepped to at the place."""
    upper = [entries[0] - number] + entries[1:]
    lower = less_times(entries, mirror)
    many = len(entries)
    if point == place:
        # Both x - z and what stands above it begin with 0 here: one entry less is told.
        upper = upper[1:]
        many = many - 1
    else:
        lower = product_of(lower, [point - place, Twin(1)])
    return quotient_numbers(product_of(upper, less_times([point, Twin(1)], place.mirror())), lower, many)


def parameters(telling):
    """The numbers of the steps, as long as one can be taken and answers are left."""
    found = []
    left = told_telling(telling)
    while left and can_step(left):
        found.append(left[0][1][0])
        left = stepped_tolds(left)
    return found


def stepped(telling, many):
    """The telling behind so many steps, None if no answer is left."""
    left = told_telling(telling)
    need_count(many)
    for _ in range(many):
        need_step(left)
        left = stepped_tolds(left)
    return left or None


def step_box(box, point):
    """The tuple of the box's worth at the point and the Box that is stepped to there."""
    need_box(box)
    place = as_point(point)
    number = box.worth(point)
    if not number.size().is_below(1):
        raise NoStep()
    top, base = box.curves()
    above = quotient_and_rest(_less(top, base, number), [-place, Twin(1)])[0]
    upper = trimmed(product_of(above, less_times([Twin(0), Twin(1)], place.mirror())))
    return number, _box_if_any(upper, _less(base, top, number.mirror()))


def _less(first, second, number):
    """One curve less the number times another one."""
    return added(first, [-(number * one) for one in second])


def _box_if_any(top, base):
    found = box_of_curves(top, base)
    if found is None:
        raise NoStep()
    return found


def step_back(box, point, number):
    """The Box that is stepped to this one at the point, where its worth is the number."""
    need_box(box)
    place = as_point(point)
    # Just the POINTS are the VALUES of a size below 1.
    if not is_point(number):
        raise InvalidNumber(number)
    top, base = box.curves()
    upper, lower = led_through(step_curves(place, as_twin(number)), top, base)
    return _box_if_any(upper, lower)


def step_curves(point, number, bound=1):
    """The four curves (a, b, c, d) of a step within a bound: back by it g becomes (a g + b) by (c g + d)."""
    above = [-point, Twin(1)]
    below = trimmed(less_times([Twin(0), Twin(1)], point.mirror()))
    mirror = number.mirror().over(bound)
    return above, trimmed([one * number for one in below]), trimmed([one * mirror for one in above]), below


def led_through(four, top, base):
    """The tuple of a times top and b times base, and of c times top and d times base."""
    a, b, c, d = four
    return added(product_of(a, top), product_of(b, base)), added(product_of(c, top), product_of(d, base))
