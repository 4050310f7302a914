"""Curves of INTEGERS: how many real roots they have, and where they are below 0.

Such a curve is a list of INTEGERS without a 0 at its end. It stands for all curves that are a number
above 0 times it: so all are told with entries that have no divisor in common.
"""

from math import gcd, lcm

from neverlouder.ratios import Ratio, as_ratio


def whole_curve(entries):
    """The curve that is a number above 0 times a list of INTEGERS and Ratios; [] if all are 0."""
    ratios = [as_ratio(one) for one in entries]
    below = 1
    for one in ratios:
        below = lcm(below, one.bottom)
    return _shortened([one.top * (below // one.bottom) for one in ratios])


def _shortened(entries):
    """The entries without noughts at their end, divided by what all have in common."""
    many = len(entries)
    while many > 0 and entries[many - 1] == 0:
        many = many - 1
    part = 0
    for one in entries:
        part = gcd(part, one)
    return [one // part for one in entries[:many]]


def _derived(entries):
    return _shortened([entries[k] * k for k in range(1, len(entries))])


def _rest(upper, lower):
    """The rest of a curve by another one that is not nought, its sign as it is."""
    left = list(upper)
    last = len(lower) - 1
    lead = lower[last]
    for at in reversed(range(len(upper) - last)):
        # Times a number above 0, so that all stay INTEGERS.
        factor = left[at + last] if lead > 0 else -left[at + last]
        left = [one * abs(lead) for one in left]
        for k, entry in enumerate(lower):
            left[at + k] = left[at + k] - factor * entry
    return _shortened(left[:last])


def sign_row(entries):
    """The curve, its derived one, and the rests of each two neighbours, signs changed.

    The last one is the common part of the curve and its derived one, with some sign.
    """
    row = [entries]
    after = _derived(entries)
    while after:
        row.append(after)
        after = [-one for one in _rest(row[-2], row[-1])]
    return row


def sign_at(entries, place):
    """-1, 0 or 1, as the curve's worth at a Ratio is below, at or above 0."""
    found = 0
    power = 1
    for one in entries[::-1]:
        found = found * place.top + one * power
        power = power * place.bottom
    return 1 if found > 0 else -1 if found < 0 else 0


def _changes(row, place):
    """How often signs change along a row at a Ratio."""
    signs = [sign_at(one, place) for one in row]
    left = [one for one in signs if one != 0]
    return sum([1 for one, two in zip(left, left[1:]) if one != two])


def beyond_roots(entries):
    """A power of 2, a Ratio, beyond all roots of a curve that is not nought."""
    most = max([abs(one) for one in entries])
    return Ratio(1 << (most.bit_length() - abs(entries[-1]).bit_length() + 2))


def roots_of(entries):
    """How many unlike real roots a curve has that is not nought."""
    far = beyond_roots(entries)
    return _roots_between(sign_row(entries), -far, far)


def _roots_between(row, low, high):
    """How many unlike roots lie between two Ratios that are none."""
    return _changes(row, low) - _changes(row, high)


def _rows_of(entries):
    """Sign rows: of the curve, of its common part with its derived one, of that one's, and so on.

    The roots of the row at k are those that the curve has more than k times.
    """
    rows = [sign_row(entries)]
    while len(rows[-1][-1]) > 1:
        rows.append(sign_row(rows[-1][-1]))
    return rows


def _odd_between(rows, low, high):
    """How many unlike roots of an odd times lie between two Ratios that are none."""
    found = 0
    for k, row in enumerate(rows):
        many = _roots_between(row, low, high)
        found = found + (many if k % 2 == 0 else -many)
    return found


def is_somewhere_below(entries):
    """Whether a curve is below 0 at some real number."""
    if not entries:
        return False
    far = beyond_roots(entries)
    return sign_at(entries, far) < 0 or _odd_between(_rows_of(entries), -far, far) > 0


def place_below(entries):
    """A Ratio at which a curve is below 0 that is so somewhere."""
    high = beyond_roots(entries)
    low = -high
    rows = _rows_of(entries)
    middle = _between(entries, low, high)
    # While the middle is above 0 the sign changes somewhere between both ends.
    while sign_at(entries, middle) > 0:
        if _odd_between(rows, low, middle) > 0:
            high = middle
        else:
            low = middle
        middle = _between(entries, low, high)
    return middle


def _between(entries, low, high):
    """A Ratio between two others that is no root of the curve."""
    found = (low + high).over(2)
    while sign_at(entries, found) == 0:
        found = (low + found).over(2)
    return found
