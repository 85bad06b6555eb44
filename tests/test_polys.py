"""[5] and [12] to [15]: polynomials, reckoned, put in, derived, divided."""

import random
import unittest

from fromplaces.errors import InvalidNumber, InvalidPoly, NoughtPoly, TooMany
from fromplaces.polys import (
    degree, derived, divided, is_poly, minus, plus, put_in, scaled, times, told, worth,
)
from fromplaces.ratios import Ratio
from support import NO_NUMBER, NO_POLY, Case, ratios

HALF = Ratio(1, 2)
SOME = [
    [], (), [0], [0, 0, 0], [5], [Ratio(-2, 3)], [0, 1], (1, 1), [1, 0, 2, 0], [-1, HALF, 3, 0, 0], [0, 0, 0, Ratio(7, 5)],
    [Ratio(0), 0, 1, Ratio(-4)], [1, -2, 1, 0, 6, HALF],
]
TIMES = [0, 1, -1, 2, HALF, Ratio(-5, 3), Ratio(0)]
WITH_TWO = [plus, minus, times, put_in, divided]


def power(many, number=1):
    """t to the power many, times the number."""
    return [0] * many + [number]


class Polynomials(Case):

    def test_is_poly(self):
        for value in SOME + [[0] * 49, [1] * 49, (HALF,) * 49]:
            self.assertIs(is_poly(value), True)
        self.assertIs(is_poly(value=[1]), True)
        for value in NO_POLY:
            self.assertIs(is_poly(value), False, value)

    def test_told(self):
        self.assertEqual(told([1, 0, HALF, 0, Ratio(0)]), ratios(1, 0, "1/2"))
        for nought in [[], (), [0], [Ratio(0)], [0] * 49]:
            self.assertEqual(told(nought), [])
        for poly in SOME:
            found = self.unchanged(told, poly)
            self.is_told(found)
            self.assertEqual(told(found), found)
        self.assertEqual(told(poly=(3,)), ratios(3))
        self.assertEqual(len(told([1] * 49)), 49)

    def test_told_is_new(self):
        passed = ratios(1, 2)
        found = told(passed)
        found.append(Ratio(3))
        self.assertEqual(passed, ratios(1, 2))

    def test_degree(self):
        for poly, wanted in [
            ([], -1), ([0, 0], -1), ([0] * 49, -1), ([7], 0), ([7, 0], 0), ([0, HALF], 1), ([1, 0, 2, 0], 2),
            (power(48), 48), ((1, 2, 3), 2),
        ]:
            self.alike(self.unchanged(degree, poly), wanted)
        self.alike(degree(poly=[0, 1]), 1)


class WrongValues(Case):

    def test_one_polynomial(self):
        for value in NO_POLY:
            for function in [told, degree, derived]:
                self.fails(InvalidPoly, {"value": value}, function, value)
                self.fails(InvalidPoly, {"value": value}, function, poly=value)

    def test_two_polynomials(self):
        for value in NO_POLY:
            for function in WITH_TWO:
                self.fails(InvalidPoly, {"value": value}, function, value, "later")
                self.fails(InvalidPoly, {"value": value}, function, [1], value)
                self.fails(InvalidPoly, {"value": value}, function, other=value, poly=[])

    def test_polynomial_and_number(self):
        for value in NO_POLY:
            for function in [scaled, worth]:
                self.fails(InvalidPoly, {"value": value}, function, value, "later")
        for value in NO_NUMBER:
            for function in [scaled, worth]:
                self.fails(InvalidNumber, {"value": value}, function, [1, 2], value)
                self.fails(InvalidNumber, {"value": value}, function, [], value)
                self.fails(InvalidNumber, {"value": value}, function, number=value, poly=(0, 1))

    def test_fiftieth_number(self):
        for function in [told, degree, derived]:
            function([0] * 49)
            self.fails(InvalidPoly, {"value": [0] * 50}, function, [0] * 50)


class Reckoned(Case):

    def test_worths_of_what_is_reckoned(self):
        for one in SOME:
            for two in SOME:
                added, less = self.unchanged(plus, one, two), self.unchanged(minus, one, two)
                product, inner = self.unchanged(times, one, two), self.unchanged(put_in, one, two)
                for at in TIMES:
                    self.assertEqual(worth(added, at), worth(one, at) + worth(two, at))
                    self.assertEqual(worth(less, at), worth(one, at) - worth(two, at))
                    self.assertEqual(worth(product, at), worth(one, at) * worth(two, at))
                    self.assertEqual(worth(inner, at), worth(one, worth(two, at)))
                for found in [added, less, product, inner]:
                    self.is_told(found)

    def test_by_hand(self):
        self.assertEqual(plus([1, 2], [1, -2]), ratios(2))
        self.assertEqual(plus([1], [1, 0, HALF]), ratios(2, 0, "1/2"))
        self.assertEqual(minus([1, 2], [1, 2, 0]), [])
        self.assertEqual(minus([1], [0, 0, 3]), ratios(1, 0, -3))
        self.assertEqual(times([1, HALF], [2, 4]), ratios(2, 5, 2))
        self.assertEqual(times([], [1, 2]), [])
        self.assertEqual(times([3], [HALF]), ratios("3/2"))
        self.assertEqual(scaled([1, 2, 0], HALF), ratios("1/2", 1))
        self.assertEqual(scaled((1, 2), 0), [])
        self.assertEqual(scaled([], 5), [])

    def test_by_name(self):
        self.assertEqual(plus(other=[1], poly=[0, 1]), ratios(1, 1))
        self.assertEqual(minus(other=[1], poly=[0, 1]), ratios(-1, 1))
        self.assertEqual(times(other=[2], poly=[0, 1]), ratios(0, 2))
        self.assertEqual(scaled(number=2, poly=[0, 1]), ratios(0, 2))
        self.assertEqual(put_in(other=[2], poly=[0, 1]), ratios(2))
        self.assertEqual(worth(number=2, poly=[0, 0, 1]), Ratio(4))
        self.assertEqual(derived(poly=[0, 0, 1]), ratios(0, 2))
        self.assertEqual(divided(other=[0, 1], poly=[3, 1]), (ratios(1), ratios(3)))

    def test_degree_of_a_product(self):
        self.assertEqual(times(power(24), power(24)), ratios(*power(48)))
        self.assertEqual(times(power(48), [2]), ratios(*power(48, 2)))
        self.assertEqual(times([0] * 49, power(48)), [])
        self.assertEqual(times(power(48), []), [])
        for one, two in [(24, 25), (25, 24), (48, 1), (1, 48), (48, 48)]:
            self.fails(TooMany, {"what": "degree", "limit": 48}, times, power(one), power(two))
        self.fails(InvalidPoly, {"value": None}, times, power(48), None)

    def test_degree_of_what_is_put_in(self):
        self.assertEqual(put_in(power(6), power(8)), ratios(*power(48)))
        self.assertEqual(put_in(power(48), [0, -1]), ratios(*power(48)))
        self.assertEqual(put_in([0, 2], power(48)), ratios(*power(48, 2)))
        self.assertEqual(put_in(power(48), [2]), ratios(2 ** 48))
        self.assertEqual(put_in([7], power(48)), ratios(7))
        self.assertEqual(put_in([], power(48)), [])
        self.assertEqual(put_in(power(48), []), [])
        self.assertEqual(put_in([5] + power(47), [0, 0]), ratios(5))
        for one, two in [(7, 7), (48, 2), (2, 48), (25, 2), (48, 48)]:
            self.fails(TooMany, {"what": "degree", "limit": 48}, put_in, power(one), power(two))
        self.fails(InvalidPoly, {"value": [True]}, put_in, power(48), [True])

    def test_worth(self):
        self.assertEqual(worth([], 5), Ratio(0))
        self.assertEqual(worth([0, 0], HALF), Ratio(0))
        self.assertEqual(worth([7], 5), Ratio(7))
        self.assertEqual(worth([1, 2, 3], 0), Ratio(1))
        self.assertEqual(worth((1, 2, 3), -2), Ratio(9))
        self.assertEqual(worth([0, 1, HALF], Ratio(2, 3)), Ratio(8, 9))
        self.assertIs(type(worth([1], 1)), Ratio)
        self.assertEqual(worth(power(48), Ratio(-999999, 999998)), Ratio(999999 ** 48, 999998 ** 48))

    def test_derived(self):
        self.assertEqual(derived([]), [])
        self.assertEqual(derived([7]), [])
        self.assertEqual(derived([0, 0]), [])
        self.assertEqual(derived([5, 1, 3]), ratios(1, 6))
        self.assertEqual(derived([1, HALF, 0, HALF]), ratios("1/2", 0, "3/2"))
        self.assertEqual(derived(power(48)), ratios(*power(47, 48)))
        for poly in SOME:
            self.is_told(self.unchanged(derived, poly))


class Divided(Case):

    def test_quotient_and_rest(self):
        for one in SOME:
            for two in SOME:
                if degree(two) < 0:
                    continue
                found = self.unchanged(divided, one, two)
                self.assertIs(type(found), tuple)
                quotient, rest = found
                self.is_told(quotient)
                self.is_told(rest)
                self.assertLess(degree(rest), max(degree(two), 0))
                self.assertEqual(plus(times(quotient, two), rest), told(one))

    def test_by_hand(self):
        self.assertEqual(divided([1, 0, 1], [1, 1]), (ratios(-1, 1), ratios(2)))
        self.assertEqual(divided([1, 2, 1, 0], (1, 1, 0)), (ratios(1, 1), []))
        self.assertEqual(divided([1, 2], [0, 0, 1]), ([], ratios(1, 2)))
        self.assertEqual(divided([1, 2], [4]), (ratios("1/4", "1/2"), []))
        self.assertEqual(divided([], [4, 1]), ([], []))
        self.assertEqual(divided([0, 0, 0, 1], [0, HALF]), (ratios(0, 0, 2), []))

    def test_by_nought(self):
        for nought in [[], (), [0], [0, Ratio(0)]]:
            self.fails(NoughtPoly, {}, divided, [1, 2], nought)
            self.fails(NoughtPoly, {}, divided, [], nought)
            self.fails(InvalidPoly, {"value": "x"}, divided, "x", nought)

    def test_great_polynomials(self):
        source = random.Random(3)
        made = [[Ratio(source.randint(-999999, 999999), source.randint(1, 999999)) for _ in range(25)] for _ in range(3)]
        product = times(made[0], made[1])
        self.assertEqual(divided(product, made[1]), (told(made[0]), []))
        rest = made[2][:24]
        self.assertEqual(divided(plus(product, rest), made[1]), (told(made[0]), told(rest)))
        inner = put_in(product, [made[0][0], made[0][1]])
        back = put_in(inner, [(-made[0][0]).over(made[0][1]), Ratio(1).over(made[0][1])])
        self.assertEqual(back, product)


if __name__ == "__main__":
    unittest.main()
