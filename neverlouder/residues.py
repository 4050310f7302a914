"""Curves beside a prime: a quick guess at what two of them have in common.

Numbers stand here as pairs (plain, side) of INTEGERS from 0 to below the prime. The primes
leave 3 beside 4, so plain * plain + side * side is 0 beside them for the pair (0, 0) alone,
and all other pairs can be divided by.
"""

from neverlouder.ratios import Ratio
from neverlouder.twins import Twin


def common_guess(first, second, prime):
    """The told curve that may be the common part of two told ones that are not nought.

    None if the prime is too small or divides a number that it must not. The true common part
    never has a greater degree than the guess: so a guess that divides both curves is right.
    """
    upper = _curve_beside(first, prime)
    lower = _curve_beside(second, prime)
    if upper is None or lower is None:
        return None
    while lower:
        rest = _rest(upper, lower, prime)
        upper = lower
        lower = _monic(rest, prime)
    return _curve_back(upper, prime)


def _curve_beside(entries, prime):
    """The pairs of a told curve, the leading one 1; None if they tell too little."""
    pairs = []
    for entry in entries:
        below = entry.plain.bottom * entry.side.bottom
        if below % prime == 0:
            return None
        plain = entry.plain.top * _inverse(entry.plain.bottom, prime)
        side = entry.side.top * _inverse(entry.side.bottom, prime)
        pairs.append((plain % prime, side % prime))
    if pairs[-1] == (0, 0):
        return None
    return _monic(pairs, prime)


def _led_down(prime, residue, bound):
    """The first rest of Euclid's steps that is at most the bound, and by what residue leaves it."""
    upper = prime
    lower = residue
    before = 0
    factor = 1
    while lower > bound:
        many = upper // lower
        upper, lower = lower, upper - many * lower
        before, factor = factor, before - many * factor
    return lower, factor


def _inverse(number, prime):
    return _led_down(prime, number % prime, 1)[1]


def _times(one, two, prime):
    plain = one[0] * two[0] - one[1] * two[1]
    side = one[0] * two[1] + one[1] * two[0]
    return plain % prime, side % prime


def _monic(pairs, prime):
    """The pairs divided by the last one that is not (0, 0)."""
    many = len(pairs)
    while many > 0 and pairs[many - 1] == (0, 0):
        many = many - 1
    if many == 0:
        return []
    plain, side = pairs[many - 1]
    below = _inverse(plain * plain + side * side, prime)
    factor = (plain * below, -side * below)
    return [_times(pair, factor, prime) for pair in pairs[:many]]


def _rest(upper, lower, prime):
    """The rest of curves of pairs, the lower one's leading pair 1, noughts at its end."""
    rest = list(upper)
    last = len(lower) - 1
    for at in reversed(range(len(upper) - last)):
        factor = rest[at + last]
        for k, entry in enumerate(lower):
            plain, side = _times(factor, entry, prime)
            old = rest[at + k]
            rest[at + k] = ((old[0] - plain) % prime, (old[1] - side) % prime)
    return rest[:last]


def _curve_back(pairs, prime):
    """The Twins with small tops and bottoms that leave these pairs; None without such."""
    # Below the root of the prime by this much a wrong guess is hardly ever met.
    bound = 1 << (prime.bit_length() // 2 - 8)
    entries = []
    for pair in pairs:
        tops = [_led_down(prime, part, bound) for part in pair]
        if any([abs(below) > bound for _, below in tops]):
            return None
        (plain, plain_below), (side, side_below) = tops
        entries.append(Twin(Ratio(plain, plain_below), Ratio(side, side_below)))
    return entries
