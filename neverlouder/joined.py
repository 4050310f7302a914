"""Joined boxes and tellings: products, shares, delays, boxes put in others or led through links."""

from neverlouder.basics import is_list, need_count
from neverlouder.boxes import Box, lowest_terms, need_box
from neverlouder.built import is_link
from neverlouder.curves import MOST_DEGREE, MOST_ENTRIES, added, padded, product_of, put_curve
from neverlouder.errors import InvalidLinks, InvalidShare, NoBox, NotAlike, NotNought, TooMany
from neverlouder.ratios import as_ratio, is_ratio
from neverlouder.steps import led_through, step_curves
from neverlouder.tellings import told_telling
from neverlouder.twins import Twin, as_twin

MOST_LINKS = 8


def product(box, other):
    """The Box that answers with the one what the other one answers."""
    need_box(box)
    need_box(other)
    top, base = box.curves()
    other_top, other_base = other.curves()
    return _joined_box(product_of(top, other_top), product_of(base, other_base))


def _joined_box(top, base):
    """The Box of two told curves; TooMany if one of them has too many entries."""
    _need_few_entries(top, base)
    return Box(top, base)


def _need_few_entries(top, base):
    if max(len(top), len(base)) > MOST_ENTRIES:
        raise TooMany("degree", MOST_DEGREE)


def share(box, other, ratio):
    """The Box that answers with the ratio times the one's answers and 1 less it times the other one's."""
    need_box(box)
    need_box(other)
    part = _as_share(ratio)
    top, base = box.curves()
    other_top, other_base = other.curves()
    upper = _shared(product_of(top, other_base), product_of(other_top, base), part)
    return _joined_box(upper, product_of(base, other_base))


def _as_share(ratio):
    if not is_ratio(ratio) or as_ratio(ratio).sign < 0 or not as_ratio(ratio).is_at_most(1):
        raise InvalidShare(ratio)
    return as_ratio(ratio)


def _shared(first, second, part):
    """The part times the first told curve and 1 less it times the second one, together."""
    return added([one * part for one in first], [one * (1 - part) for one in second])


def delayed(box, many):
    """The Box that answers each row so many moments later."""
    need_box(box)
    need_count(many)
    top, base = box.curves()
    # So many noughts in front are too many in any case, unless nothing else is there; more are not made.
    return _joined_box([Twin(0)] * min(many, MOST_ENTRIES) + top, base)


def put_in(box, other):
    """The Box with another one, that begins with 0, in the place of x."""
    need_box(box)
    need_box(other)
    above, below = other.curves()
    if above and not above[0].is_nought:
        raise NotNought()
    many = box.degree
    # Top and base have no root in common: so one of the curves made of them has just this degree.
    if many * other.degree > MOST_DEGREE:
        raise TooMany("degree", MOST_DEGREE)
    top, base = box.curves()
    return Box(put_curve(top, many, above, below), put_curve(base, many, above, below))


def led(links, box):
    """The Box led through links, from the last one to the first one."""
    if not is_list(links) or len(links) > MOST_LINKS or not all([is_link(one) for one in links]):
        raise InvalidLinks(links)
    need_box(box)
    top, base = box.curves()
    for point, number in links[::-1]:
        top, base = led_through(step_curves(as_twin(point), as_twin(number)), top, base)
    # In lowest terms the base may begin otherwise than here.
    found = lowest_terms(top, base)
    if found is None:
        raise NoBox()
    _need_few_entries(top, base)
    return Box(found[0], found[1])


def product_telling(telling, other):
    """What the product of boxes that do these tellings does, a telling."""
    tolds = told_telling(telling)
    others = told_telling(other)
    _need_alike(tolds, others)
    found = []
    for (point, answers), (_, more) in zip(tolds, others):
        found.append((point, product_of(answers, more)[:len(answers)]))
    return found


def share_telling(telling, other, ratio):
    """What the share of boxes that do these tellings does, a telling."""
    tolds = told_telling(telling)
    others = told_telling(other)
    part = _as_share(ratio)
    _need_alike(tolds, others)
    found = []
    for (point, answers), (_, more) in zip(tolds, others):
        found.append((point, padded(_shared(answers, more, part), len(answers))))
    return found


def _need_alike(tolds, others):
    """Raise NotAlike unless two tellings are alike in points."""
    if [(point, len(answers)) for point, answers in tolds] != [(point, len(answers)) for point, answers in others]:
        raise NotAlike()
