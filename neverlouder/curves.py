"""Curves: lists of entries c0, c1, .. with the worth c0 + c1 x + c2 x x + .. at x."""

from neverlouder.basics import need_count
from neverlouder.errors import InvalidCurve, NoughtCurve, TooMany, TooShort
from neverlouder.residues import common_guess
from neverlouder.twins import Twin, are_values, as_twin

MOST_ENTRIES = 41
MOST_DEGREE = 40
# 2 to the power of each of these, less 1, is a prime: the next one is taken where one is too small.
PRIME_BITS = (127, 521, 2203, 9689, 44497)


def is_curve(value):
    """Whether any value is a curve: a list of 0 to 41 VALUES."""
    return are_values(value, 0, MOST_ENTRIES)


def told(curve):
    """The told form: Twins, without a nought at the end."""
    if not is_curve(curve):
        raise InvalidCurve(curve)
    return trimmed([as_twin(one) for one in curve])


def trimmed(entries):
    """Twins without the noughts at their end."""
    many = len(entries)
    while many > 0 and entries[many - 1].is_nought:
        many = many - 1
    return entries[:many]


def padded(entries, many):
    """The first so many Twins, noughts behind their end."""
    return entries[:many] + [Twin(0)] * (many - len(entries))


def degree(curve):
    """The position of the last entry that is not 0, -1 for nought."""
    return len(told(curve)) - 1


def leading(curve):
    """The last entry that is not 0; 0 for nought."""
    entries = told(curve)
    if not entries:
        return Twin(0)
    return entries[-1]


def plus(curve, other):
    """The sum of two curves."""
    return added(told(curve), told(other))


def minus(curve, other):
    """The difference of two curves."""
    return added(told(curve), [-one for one in told(other)])


def added(first, second):
    """The sum of told curves of any degree."""
    many = max(len(first), len(second))
    return trimmed([one + two for one, two in zip(padded(first, many), padded(second, many))])


def times(curve, other):
    """The product of two curves, of a degree up to 40."""
    first = told(curve)
    second = told(other)
    found = product_of(first, second)
    if len(found) > MOST_ENTRIES:
        raise TooMany("degree", MOST_DEGREE)
    return found


def product_of(first, second):
    """The product of two lists of Twins as curves of any degree, entry by entry."""
    if not first or not second:
        return []
    found = [Twin(0)] * (len(first) + len(second) - 1)
    for i, one in enumerate(first):
        for k, two in enumerate(second):
            found[i + k] = found[i + k] + one * two
    return found


def put_curve(entries, many, above, below):
    """The sum of each entry k times above to the k-th times below to the (many - k)-th, for told curves."""
    found = []
    power = [Twin(1)]
    for one in padded(entries, many + 1)[::-1]:
        found = added(product_of(found, above), [one * two for two in power])
        power = product_of(power, below)
    return found


def scaled(curve, number):
    """The curve times a number."""
    entries = told(curve)
    by = as_twin(number)
    return trimmed([one * by for one in entries])


def divided(curve, other):
    """The quotient and the rest of one curve by another one that is not nought."""
    upper = told(curve)
    lower = told(other)
    if not lower:
        raise NoughtCurve()
    return quotient_and_rest(upper, lower)


def quotient_and_rest(upper, lower):
    """The tuple of quotient and rest of told curves of any degree, the lower one not nought."""
    rest = list(upper)
    quotient = []
    last = len(lower) - 1
    for at in reversed(range(len(upper) - last)):
        factor = rest[at + last].over(lower[last])
        quotient.append(factor)
        for k, entry in enumerate(lower):
            rest[at + k] = rest[at + k] - factor * entry
    return quotient[::-1], trimmed(rest[:last])


def common(curve, other):
    """The common part: the greatest curve that divides both, its leading number 1."""
    return common_part(told(curve), told(other))


def common_part(first, second):
    """The common part of told curves of any degree."""
    if not first or not second:
        return monic(first or second)
    for bits in PRIME_BITS:
        guess = common_guess(first, second, (1 << bits) - 1)
        if guess is not None and divides(guess, first) and divides(guess, second):
            return guess
    return common_by_rests(first, second)


def divides(lower, upper):
    """Whether a told curve, not nought, divides another one with the rest nought."""
    return quotient_and_rest(upper, lower)[1] == []


def common_by_rests(first, second):
    """The common part, slowly: without a prime that may be too small."""
    upper = monic(first)
    lower = monic(second)
    # Each rest gets the leading number 1, else the numbers would grow beyond need.
    while lower:
        rest = quotient_and_rest(upper, lower)[1]
        upper = lower
        lower = monic(rest)
    return upper


def monic(entries):
    """A told curve divided by its leading number; nought stays."""
    return [one.over(entries[-1]) for one in entries]


def worth_at(curve, number):
    """The worth of a curve at a number, a Twin."""
    entries = told(curve)
    at = as_twin(number)
    found = Twin(0)
    for one in entries[::-1]:
        found = found * at + one
    return found


def derived(curve):
    """What a curve is derived to: c1, 2 c2, 3 c3, .."""
    entries = told(curve)
    return [entries[k] * k for k in range(1, len(entries))]


def moved(curve, number):
    """The curve that has at x the worth of this one at x + number."""
    entries = told(curve)
    by = as_twin(number)
    last = len(entries) - 1
    for low in range(last):
        for k in reversed(range(low, last)):
            entries[k] = entries[k] + by * entries[k + 1]
    return entries


def mirrored(curve):
    """The curve of the mirrors of all entries."""
    return [one.mirror() for one in told(curve)]


def turned(curve, many):
    """The curve with the mirror of its entry k at the position many - k."""
    entries = told(curve)
    need_count(many)
    if many < len(entries) - 1:
        raise TooShort(many)
    if many > MOST_DEGREE:
        raise TooMany("degree", MOST_DEGREE)
    mirrors = [one.mirror() for one in padded(entries, many + 1)]
    return trimmed(mirrors[::-1])
