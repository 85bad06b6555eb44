"""[16]: common parts, least multiples, parts of one polynomial with another one."""

import random
import unittest

from fromplaces.errors import InvalidPoly, NoughtPoly, TooMany
from fromplaces.parts import common, multiple, part_with
from fromplaces.polys import degree, divided, plus, times, told
from fromplaces.ratios import Ratio
from support import NO_POLY, Case, ratios

HALF = Ratio(1, 2)
FACTORS = [[-1, 1], [2, 1], [1, 0, 1], [-2, 0, 1], [0, 1], [HALF, 1], [1, 1, 1]]
NOUGHTS = [[], (), [0], [0, 0], [Ratio(0)]]


def product(*polys):
    found = [1]
    for poly in polys:
        found = times(found, poly)
    return found


def power(poly, many):
    return product(*[poly] * many)


def great(source, many):
    return [Ratio(source.randint(-999999, 999999), source.randint(1, 999999)) for _ in range(many)] + [source.randint(1, 9)]


class WrongValues(Case):

    def test_first_wrong_one_decides(self):
        for value in NO_POLY:
            for function in [common, multiple, part_with]:
                self.fails(InvalidPoly, {"value": value}, function, value, "later")
                self.fails(InvalidPoly, {"value": value}, function, [1, 1], value)
                self.fails(InvalidPoly, {"value": value}, function, [], value)
                self.fails(InvalidPoly, {"value": value}, function, other=value, poly=[0])

    def test_nought(self):
        for nought in NOUGHTS:
            for function in [multiple, part_with]:
                self.fails(NoughtPoly, {}, function, nought, [1, 1])
                self.fails(NoughtPoly, {}, function, [1, 1], nought)
                self.fails(NoughtPoly, {}, function, nought, nought)
                self.fails(NoughtPoly, {}, function, [0] * 48 + [1], nought)


class Common(Case):

    def test_factors_in_common(self):
        for k, one in enumerate(FACTORS):
            for j, two in enumerate(FACTORS):
                for shared in FACTORS:
                    first, second = product([3], one, shared), product([-HALF], shared, two, shared)
                    # A factor of both that stands beside the shared one is shared as well.
                    wanted = product(shared, one) if k == j else shared
                    if one == shared:
                        wanted = product(shared, shared)
                    found = self.unchanged(common, first, second)
                    self.assertEqual(found, told(wanted))
                    self.is_told(found)
                    self.assertEqual(common(second, first), found)

    def test_noughts_and_numbers(self):
        for nought in NOUGHTS:
            self.assertEqual(common(nought, nought), [])
            self.assertEqual(common(nought, [2, 4]), ratios("1/2", 1))
            self.assertEqual(common((2, 4), nought), ratios("1/2", 1))
            self.assertEqual(common([5], nought), ratios(1))
        self.assertEqual(common([5], [7]), ratios(1))
        self.assertEqual(common([5], [0, 1]), ratios(1))
        self.assertEqual(common([1, 1], [HALF]), ratios(1))

    def test_one_divides_the_other(self):
        self.assertEqual(common([1, 2, 1], [2, 2]), ratios(1, 1))
        self.assertEqual(common([0, -3], [0, 0, 5]), ratios(0, 1))
        self.assertEqual(common(poly=[1, 2, 1], other=[1, 2, 1]), ratios(1, 2, 1))

    def test_great_polynomials(self):
        source = random.Random(11)
        one, two, shared = [great(source, 24) for _ in range(3)]
        first, second = times(one, shared), times(two, shared)
        found = common(first, second)
        self.assertEqual(degree(found), 24)
        self.assertEqual(found[-1], Ratio(1))
        self.assertEqual([divided(first, found)[1], divided(second, found)[1], divided(shared, found)[1]], [[], [], []])
        self.assertEqual(common(great(source, 48), great(source, 48)), ratios(1))

    def test_numbers_that_are_noughts_modulo_great_primes(self):
        for bits in [521, 1279, 2203]:
            prime = 2 ** bits - 1
            shared = [1, prime]
            self.assertEqual(common(times(shared, [1, 1]), times(shared, [2, 1])), [Ratio(1, prime), Ratio(1)])
            # Modulo the prime these have more in common than they have.
            self.assertEqual(common([1, 1], [1 + prime, 1]), ratios(1))
            self.assertEqual(common(product([1, 1], [2, 1]), product([1 + prime, 1], [2, 1])), ratios(2, 1))
            self.assertEqual(common([1, 1], [prime, prime * 2]), ratios(1))


class Multiple(Case):

    def test_by_hand(self):
        self.assertEqual(multiple([-1, 0, 1], [2, 4, 2]), ratios(-1, -1, 1, 1))
        self.assertEqual(multiple([2], [3]), ratios(1))
        self.assertEqual(multiple([2], [0, 3]), ratios(0, 1))
        self.assertEqual(multiple((0, 2), (0, 0, HALF, 0)), ratios(0, 0, 1))
        self.assertEqual(multiple(other=[1, 1], poly=[-1, 1]), ratios(-1, 0, 1))

    def test_it_is_the_product_without_the_common_part(self):
        for one in FACTORS:
            for two in FACTORS:
                first, second = product(one, [-1, 1], [4]), product(two, two, [1, 2])
                found = self.unchanged(multiple, first, second)
                self.is_told(found)
                self.assertEqual(found[-1], Ratio(1))
                whole = times(first, second)
                self.assertEqual(divided(whole, common(first, second))[0], times(found, [whole[-1]]))
                self.assertEqual([divided(found, first)[1], divided(found, second)[1]], [[], []])

    def test_degree(self):
        self.assertEqual(degree(multiple(power([1, 1], 24), power([2, 1], 24))), 48)
        self.assertEqual(degree(multiple(power([1, 1], 48), power([1, 1], 48))), 48)
        self.assertEqual(degree(multiple(power([1, 1], 48), [3, 3])), 48)
        for one, two in [(24, 25), (48, 1), (1, 48)]:
            self.fails(
                TooMany, {"what": "degree", "limit": 48}, multiple, power([1, 1], one), power([2, 1], two))
        self.fails(InvalidPoly, {"value": None}, multiple, power([1, 1], 48), None)

    def test_great_polynomials(self):
        source = random.Random(12)
        one, two, shared = [great(source, 16) for _ in range(3)]
        found = multiple(times(one, shared), times(two, shared))
        whole = product(one, two, shared)
        self.assertEqual(times(found, [whole[-1]]), whole)


class PartWith(Case):

    def test_by_hand(self):
        self.assertEqual(part_with([0, 0, 2, -3, 1], [0, 4, -4, 1]), ratios(0, 0, -2, 1))
        self.assertEqual(part_with([5], [0, 1]), ratios(1))
        self.assertEqual(part_with([0, 1], [5]), ratios(1))
        self.assertEqual(part_with([5], [7]), ratios(1))
        self.assertEqual(part_with([2, 2], [3, 3, 0]), ratios(1, 1))
        self.assertEqual(part_with(other=[0, 1], poly=(0, 0, 3, 3)), ratios(0, 0, 1))

    def test_factors_stand_as_often_as_in_the_first(self):
        for shared in FACTORS:
            others = [one for one in FACTORS if one != shared]
            for many in [1, 2, 5]:
                for often in [1, 3]:
                    first = product(power(shared, many), others[0], others[0], others[3], [7])
                    second = product(power(shared, often), others[1], others[4], [HALF])
                    found = self.unchanged(part_with, first, second)
                    self.assertEqual(found, power(shared, many))
                    left = divided(first, found)[0]
                    self.assertEqual(common(left, second), ratios(1))

    def test_without_rational_roots(self):
        one, two = [1, 0, 1], [-2, 0, 1]
        first = product(one, one, two, two, two, [1, 1])
        self.assertEqual(part_with(first, one), product(one, one))
        self.assertEqual(part_with(first, product(two, one)), product(one, one, two, two, two))
        self.assertEqual(part_with(first, [3, 1]), ratios(1))
        self.assertEqual(part_with(one, first), told(one))

    def test_greatest_degrees(self):
        self.assertEqual(part_with(power([1, 1], 48), [1, 1]), power([1, 1], 48))
        self.assertEqual(part_with(power([1, 1], 48), [2, 1]), ratios(1))
        source = random.Random(13)
        root = [Ratio(source.randint(1, 999999), source.randint(1, 999999)), 1]
        other = great(source, 12)
        first = times(power(root, 20), other)
        self.assertEqual(part_with(first, times(root, great(source, 9))), power(root, 20))
        self.assertEqual(part_with(first, plus(root, [1])), ratios(1))


if __name__ == "__main__":
    unittest.main()
