"""The quick guess at a common part: beside small primes it may be none, but is never taken if wrong."""

import unittest

from neverlouder.curves import common_by_rests, common_part, divides, monic, product_of, told
from neverlouder.ratios import Ratio
from neverlouder.residues import common_guess
from neverlouder.twins import Twin
from tests.helper import Chance

# Primes that leave 3 beside 4, from too small ones on.
PRIMES = ((1 << 17) - 1, (1 << 19) - 1, (1 << 31) - 1, (1 << 61) - 1, (1 << 127) - 1)


def pairs(seed, many):
    chance = Chance(seed)
    found = []
    while len(found) < many:
        one, two, part = [told(chance.curve(4)) for _ in range(3)]
        if one and two and part:
            found.append((told(product_of(one, part)), told(product_of(two, part))))
    return found


class Guesses(unittest.TestCase):
    def test_right_or_seen_to_be_wrong(self):
        for one, two in pairs(81, 60):
            wanted = common_by_rests(one, two)
            for prime in PRIMES:
                guess = common_guess(one, two, prime)
                if guess is not None and divides(guess, one) and divides(guess, two):
                    self.assertEqual(guess, wanted)
            self.assertEqual(common_guess(one, two, PRIMES[-1]), wanted)

    def test_prime_below_a_stroke(self):
        prime = PRIMES[2]
        for one in ([Twin(Ratio(1, prime)), Twin(1)], [Twin(1, Ratio(1, prime)), Twin(1)], [Twin(1), Twin(prime)]):
            self.assertIsNone(common_guess(one, [Twin(1), Twin(1)], prime))
            self.assertIsNone(common_guess([Twin(1), Twin(1)], one, prime))
            self.assertEqual(common_part(one, one), monic(one))

    def test_prime_too_small(self):
        part = [Twin(Ratio(123456789, 987654323)), Twin(1)]
        self.assertNotEqual(common_guess(part, part, PRIMES[0]), part)
        self.assertEqual(common_guess(part, part, PRIMES[-1]), part)

    def test_wrong_guess(self):
        # Beside the first prime this looks like x, and this like 1 + x; both are not so.
        for number in (PRIMES[-1], PRIMES[-1] + 1):
            part = [Twin(number), Twin(1)]
            self.assertEqual(common_guess(part, part, PRIMES[-1]), [Twin(number - PRIMES[-1]), Twin(1)])
            self.assertEqual(common_part(part, part), part)
            self.assertEqual(common_part(part, product_of(part, part)), part)

    def test_divides(self):
        lower = [Twin(1), Twin(1)]
        for upper, wanted in (([1, 2, 1], True), ([1, 1, 1], False), ([1], False), ([], True), ([2, 2], True)):
            self.assertIs(divides(lower, told(upper)), wanted)

    def test_beyond_all_primes(self):
        # Its number is too long for each prime that is taken: the rests tell it.
        part = [Twin(Ratio((1 << 44500) + 1, 3)), Twin(1)]
        self.assertEqual(common_part(part, part), part)
        self.assertEqual(common_part(product_of(part, [Twin(1), Twin(1)]), part), part)


if __name__ == "__main__":
    unittest.main()
