"""The package's own reckoning of what is made: modulo primes, without one, and shares with few digits."""

import random
import unittest

from fromplaces.clocks import least_clock
from fromplaces.clockwork import clock_by
from fromplaces.cores import Core, products, tried_leads
from fromplaces.lefts import lefts_of
from fromplaces.ratios import Ratio
from fromplaces.rooms import Room
from fromplaces.shares import most_bits, reduced, shared_out, shorter
from fromplaces.stairs import spanning, stair_degrees
from fromplaces.wholes import lowest, moduli, whole_product, whole_put_in
from support import Case, ratios


def all_primes():
    found = 1
    for prime in moduli()[:-1]:
        found *= prime
    return found


class Primes(Case):

    def test_another_prime_where_one_does_not_serve(self):
        prime, next_prime = moduli()[:2]
        # Modulo the prime some of these have other degrees, or another common degree.
        for gens, wanted in [
            ([[0, 0, 1], [0, 1, 0, prime]], [2, 3]), ([[0, prime, 0, 1], [0, 0, 0, 0, 1]], [3, 4]),
            ([[0, 0, 1], [0, prime, 0, 0, 0, 1]], [2, 5]), ([[0, 0, 0, 0, 1], [0, prime, 0, 0, 0, 0, 1]], [4, 6, 7]),
        ]:
            core = Core(gens)
            self.assertEqual(sorted(core.leads), wanted)
            self.assertIn(core.prime, [prime, next_prime])
            if core.prime != prime:
                self.assertIsNone(tried_leads(gens, prime))

    def test_more_is_made_than_modulo_the_prime(self):
        prime, next_prime = moduli()[:2]
        # Modulo the prime the common degree is 2.
        gens = [[0, 0, 0, 0, 1], [0, prime, 0, 0, 0, 0, 1]]
        self.assertIsNone(tried_leads(gens, prime))
        self.assertEqual(Core(gens).prime, next_prime)
        # The prime times t is made: t to the 3 and the 5 come to t to the 8, and the prime times t to the 4.
        gens = [[0, 0, 0, 1], [0, 0, 0, 0, 1], [0, prime, 0, 0, 0, 1]]
        self.assertIsNone(tried_leads(gens, prime))
        self.assertEqual(Core(gens).leads, {1: [0, 1]})

    def test_without_a_prime(self):
        great = all_primes()
        gens = [[0, 0, 0, 0, 1], [0, great, 0, 0, 0, 0, 1]]
        for prime in moduli()[:-1]:
            self.assertIsNone(tried_leads(gens, prime))
        core = Core(gens)
        self.assertEqual([sorted(core.leads), core.prime], [[4, 6, 7], 0])
        leads, kept = tried_leads([[0, 0, 0, 0, 1], [0, 1, 0, 0, 0, 0, 1]], 0)
        self.assertEqual(leads, {4: [0, 0, 0, 0, 1], 6: [0, 1, 0, 0, 0, 0, 1], 7: [0, 0, 1, 0, 0, 0, 0, 2]})
        self.assertEqual(len(kept), 6)

    def test_stairs(self):
        for prime in [moduli()[0], 0]:
            self.assertEqual(stair_degrees([[0, 0, 1], [0, -1, 0, 1]], prime), [0, 3])
            self.assertEqual(sorted(stair_degrees([[0, 0, 0, 0, 1], [0, 1, 0, 0, 0, 0, 1]], prime)), [0, 6, 7, 13])
            self.assertIsNone(stair_degrees([[0, 0, 1], [0, 0, 0, 0, 1]], prime))
            kept, extra = spanning([[0, 0, 1], [0, -1, 0, 1]], [2, 3], prime, 2)
            self.assertEqual(kept[:2], [(0, 0), (0, 1)])
            self.assertEqual(len(extra), 2)

    def test_clocks(self):
        great = all_primes()
        for number in [1, great]:
            lefts = lefts_of({2: [0, 0, 1], 3: [0, -number, 0, 1]}, 4)
            self.assertEqual(clock_by(lefts, [1], 2, 2), [Ratio(-number), Ratio(0), Ratio(1)])
            self.assertIsNone(clock_by(lefts, [1], 2, 1))
        self.assertEqual(clock_by([], [], 1, 0), ratios(1))
        # Modulo the first prime the room is that of 1 and t t t, of the clock t t t.
        prime = moduli()[0]
        for number in [prime, great]:
            self.assertEqual(least_clock(Room([0, 0, 0, 0, 1], [[0, 0, number, 1]])), ratios(0, 0, 0, 0, 1))
        self.assertEqual(least_clock(Room([0, 0, 0, 0, 1], [[0, 0, 0, 1]])), ratios(0, 0, 0, 1))


class Shares(Case):

    def test_lowest(self):
        self.assertEqual(lowest([2, -4], 6), ([1, -2], 3))
        self.assertEqual(lowest([2, -4], -6), ([-1, 2], 3))
        self.assertEqual(lowest([], -6), ([], 1))
        self.assertEqual(whole_put_in([1, 0, 2], [0, 1, 1], 2), [2, 0, 1, 2, 1])

    def test_shorter_shares(self):
        source = random.Random(48)
        polys = [[0] + [source.randint(-10 ** 30, 10 ** 30) for _ in range(9)] for _ in range(13)]
        goal = [0, 1]
        numbers, *others = shared_out(polys[:9], [goal, *polys[9:]])
        found = shorter(numbers, others)
        self.assertLess(most_bits(found), most_bits(numbers) * 2 // 3)
        for power in range(1, 10):
            total = Ratio.total([one * poly[power] for one, poly in zip(found, polys)])
            self.assertEqual(total, Ratio(1 if power == 1 else 0))

    def test_long_shares(self):
        source = random.Random(49)
        for sizes, digits in [((4, 6), 190), ((5, 6, 7), 50), ((2, 4, 7), 150), ((3, 6), 560)]:
            gens = [
                [0] + [source.randint(-10 ** digits, 10 ** digits) for _ in range(size)] for size in sizes
            ]
            core = Core(gens)
            wanted = sorted(core.leads)
            kept, shares = core.shared(wanted)
            polys = products(gens, kept)
            self.assertGreater(max([most_bits(numbers) for numbers in shares]), 2000)
            for count, numbers in zip(wanted, shares):
                self.assertLessEqual(len(numbers), len(polys))
                wide = max([len(poly) for poly in polys])
                for power in range(wide):
                    parts = [one * poly[power] for one, poly in zip(numbers, polys) if power < len(poly)]
                    lead = core.leads[count]
                    self.assertEqual(Ratio.total(parts), Ratio(lead[power] if power < len(lead) else 0))

    def test_shares_that_are_short(self):
        polys = [[0, 1], [0, 0, 1], [0, 3, 5]]
        numbers, others = shared_out(polys[:2], [[0, 2, 7], polys[2]])
        self.assertEqual(shorter(numbers, [others]), ratios(2, 7, 0))

    def test_reduced(self):
        found = reduced([[1, 0, 12345], [0, 1, 54321], [0, 0, 99991]])
        self.assertLess(max([abs(one) for row in found for one in row]), 1000)

    def test_products_of_others(self):
        self.assertEqual(whole_product([1, 2], [3, 4]), [3, 10, 8])


if __name__ == "__main__":
    unittest.main()
