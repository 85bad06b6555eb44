"""The package's own reckoning by rests modulo great primes, and what it goes back to where no prime serves."""

import unittest

from fromplaces.parts import whole_poly, with_head_one
from fromplaces.polys import times
from fromplaces.ratios import Ratio
from fromplaces.solved import cleared, headed_steps, steps, tried_steps, whole_row
from fromplaces.wholes import common_steps, fractions_of, inverse, primes, primitive, tried_common, whole_quotient
from support import Case, ratios


def all_primes():
    found = 1
    for prime in primes():
        found *= prime
    return found


class Rests(Case):

    def test_primes_are_prime(self):
        # The test of Lucas and Lehmer, for those that it does not take long for.
        for prime in primes()[:4]:
            rest = 4
            for _ in range(prime.bit_length() - 2):
                rest = (rest * rest - 2) % prime
            self.assertEqual(rest, 0)

    def test_primitive(self):
        self.assertEqual(primitive([4, -6, 0]), [2, -3, 0])
        self.assertEqual(primitive([0, 0]), [0, 0])
        self.assertEqual(primitive([]), [])

    def test_inverse(self):
        for rest in [1, 2, 12345, 96]:
            self.assertEqual(rest * inverse(rest, 97) % 97, 1 if rest % 97 else 0)

    def test_fractions(self):
        prime = primes()[0]
        rests = [top * inverse(bottom, prime) % prime for top, bottom in [(3, 4), (-5, 6), (0, 1), (7, 1)]]
        self.assertEqual(fractions_of(rests, prime), ([9, -10, 0, 84], 12))
        self.assertEqual(fractions_of([50], 101), ([-1], 2))
        # The bottom would be 15, and no part above 7 is looked for.
        self.assertIsNone(fractions_of([inverse(3, 101), inverse(5, 101)], 101))
        self.assertEqual(fractions_of([50], 10007), ([50], 1))

    def test_whole_quotient(self):
        self.assertEqual(whole_quotient([-1, 0, 1], [1, 1]), [-1, 1])
        self.assertIsNone(whole_quotient([1, 0, 1], [1, 1]))
        self.assertIsNone(whole_quotient([1, 1], [1, 0, 1]))
        self.assertIsNone(whole_quotient([1, 1], [2, 2]))
        self.assertIsNone(whole_quotient([0, 1], [1, 2]))


class WithoutPrimes(Case):

    def test_common(self):
        first, second = whole_poly(times([1, 1], [2, 3])), whole_poly(times([2, 3], [5, 0, 1]))
        self.assertEqual(with_head_one(common_steps(first, second, 0)), ratios("2/3", 1))
        great = all_primes()
        first, second = [1, 1 + great, great], [2, 1 + 2 * great, great]
        for prime in primes():
            self.assertIsNone(tried_common(first, second, prime))
        self.assertEqual(with_head_one(common_steps(first, second, 0)), [Ratio(1, great), Ratio(1)])

    def test_steps(self):
        great = all_primes()
        for rows in [[[great, 1]], [[1, 1], [1, 1 + great]]]:
            whole = [whole_row(row) for row in rows]
            for prime in primes():
                self.assertIsNone(tried_steps(whole, prime))
            self.assertEqual(len(headed_steps(whole)), len(rows))
        self.assertEqual(steps([[great, 1]]), [[Ratio(1), Ratio(1, great)]])
        self.assertEqual(steps([[1, 1], [1, 1 + great]]), [ratios(1, 0), ratios(0, 1)])

    def test_cleared_tells_what_steps_tell(self):
        rows = [[2, 4, 1], [1, 2, 3], [3, 6, 4]]
        exact = [(head, [Ratio(one, row[head]) for one in row]) for head, _, row in cleared(rows, 3, 0)]
        self.assertEqual(exact, headed_steps(rows))


if __name__ == "__main__":
    unittest.main()
