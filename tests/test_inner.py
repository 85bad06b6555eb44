"""[34] to [36]: digits by another polynomial, the outer polynomial, root parts."""

import random
import unittest

from fromplaces.errors import InvalidInner, InvalidMany, InvalidPoly, OnlyNumber
from fromplaces.inner import digits, outer, root_part
from fromplaces.polys import degree, plus, put_in, scaled, times, told
from fromplaces.ratios import Ratio
from support import NO_COUNT, NO_POLY, Case, ratios, six_digits

HALF = Ratio(1, 2)
NO_INNER = NO_POLY + [[], (), [0], [5], [HALF, 0], (0, 0, 0)]
INNERS = [[0, 1], [3, 2], [HALF, Ratio(-3, 4)], [0, 0, 1], (1, -1, 5, 0), [0, 1, 1], [2, 0, 0, Ratio(1, 7)], [0] * 48 + [1]]
POLYS = [
    [], [0], [7], [0, 1, 1], (1, 0, 2, 0, 1), [1, 4, 6, 4, 1], [HALF, 0, 0, 3, Ratio(-2, 5)], list(range(49)), [0] * 48 + [HALF],
]


class Digits(Case):

    def test_put_together_again(self):
        for inner in INNERS:
            for poly in POLYS:
                found = self.unchanged(digits, poly, inner)
                self.assertIs(type(found), list)
                total, power = [], [Ratio(1)]
                for at, one in enumerate(found):
                    self.is_told(one)
                    self.assertLess(degree(one), degree(inner))
                    total = plus(total, times(one, power))
                    if at + 1 < len(found):
                        power = times(power, inner)
                self.assertEqual(total, told(poly))
                if found:
                    self.assertNotEqual(found[-1], [])

    def test_by_hand(self):
        self.assertEqual(digits([1, 0, 2, 0, 1], [0, 0, 1]), [ratios(1), ratios(2), ratios(1)])
        self.assertEqual(digits([0, 1, 1], [0, 0, 1]), [ratios(0, 1), ratios(1)])
        self.assertEqual(digits([0, 0, 0, 0, 1], [0, 0, 1]), [[], [], ratios(1)])
        self.assertEqual(digits(inner=[0, 1], poly=[0]), [])
        self.assertEqual(digits([5, 1], [0, 0, 3]), [ratios(5, 1)])
        self.assertEqual(digits([0, 0, 1], [0, 0, 2]), [[], ratios("1/2")])
        self.assertEqual(digits([1, 1, 1], [1, 2]), [ratios("3/4"), [], ratios("1/4")])

    def test_wrong_values(self):
        for value in NO_POLY:
            self.fails(InvalidPoly, {"value": value}, digits, value, "later")
            self.fails(InvalidPoly, {"value": value}, outer, inner=[], poly=value)
        for value in NO_INNER:
            self.fails(InvalidInner, {"value": value}, digits, [], value)
            self.fails(InvalidInner, {"value": value}, outer, [1, 2], value)
            self.fails(InvalidInner, {"value": value}, outer, inner=value, poly=[0] * 49)


class Outer(Case):

    def test_what_was_put_in(self):
        for inner in INNERS:
            for f in [[], [3], [0, 1], (1, 0, HALF), [5, -1, 0, 2, 0]]:
                if max(degree(f), 0) * degree(inner) <= 48:
                    self.assertEqual(self.unchanged(outer, put_in(f, inner), inner), told(f))

    def test_by_hand(self):
        self.assertEqual(outer([1, 0, 2, 0, 1], [0, 0, 1]), ratios(1, 2, 1))
        self.assertIsNone(outer([0, 1, 1], [0, 0, 1]))
        self.assertIsNone(outer([0, 1], [0, 0, 1]))
        self.assertEqual(outer(inner=[1, 2], poly=[1, 4, 4]), ratios(0, 0, 1))
        self.assertEqual(outer([4, 0], [0, 0, 0, 1]), ratios(4))
        self.assertIsNone(outer([0, 0, 0, 0, 1], [0, 0, 0, 1]))

    def test_by_digits(self):
        for inner in INNERS:
            for poly in POLYS:
                found = digits(poly, inner)
                wanted = None if any(degree(one) > 0 for one in found) else told([one[0] if one else 0 for one in found])
                self.assertEqual(self.unchanged(outer, poly, inner), wanted)


class RootPart(Case):

    def test_by_hand(self):
        self.assertEqual(root_part([1, 4, 6, 4, 1], 2), ratios(0, 2, 1))
        self.assertEqual(root_part([0, 1, 0, 1], 1), ratios(0, 1))
        self.assertIsNone(root_part([0, 1, 0, 0, 1], 2))
        self.assertEqual(root_part([7, 4, 2], 2), ratios(0, 2, 1))
        self.assertEqual(root_part(many=4, poly=[1, 4, 6, 4, HALF]), ratios(0, 8, 12, 8, 1))
        self.assertIsNone(root_part([0, 1, 0, 1], 2))
        self.assertIsNone(root_part([0, 1], 48))
        self.assertEqual(root_part([0] * 48 + [3], 24), ratios(*[0] * 24, 1))
        self.assertEqual(root_part([0] * 48 + [3], 48), ratios(*[0] * 48, 1))

    def test_of_what_is_put_in(self):
        source = random.Random(36)
        for _ in range(60):
            inner = [source.randint(-3, 3) for _ in range(source.randint(1, 5))] + [Ratio(source.randint(1, 4), 3)]
            f = [source.randint(-3, 3) for _ in range(source.randint(1, 4))] + [Ratio(-2, source.randint(1, 5))]
            poly = put_in(f, inner)
            found = self.unchanged(root_part, poly, degree(inner))
            self.is_told(found)
            self.assertEqual(found, told([0] + scaled(inner, Ratio(1).over(inner[-1]))[1:]))
            self.assertIsNotNone(outer(poly, found))
            self.assertEqual(root_part(poly, degree(poly)), told([0] + scaled(poly, Ratio(1).over(poly[-1]))[1:]))
            self.assertEqual(root_part(poly, 1), ratios(0, 1))

    def test_all_degrees(self):
        source = random.Random(37)
        poly = put_in(six_digits(source, 4), put_in(six_digits(source, 3), six_digits(source, 2)))
        self.assertEqual([many for many in range(1, 49) if root_part(poly, many) is not None], [1, 2, 6, 24])
        poly = six_digits(source, 48)
        self.assertEqual([many for many in range(1, 49) if root_part(poly, many) is not None], [1, 48])

    def test_wrong_values(self):
        for value in NO_POLY:
            self.fails(InvalidPoly, {"value": value}, root_part, value, 0)
            self.fails(InvalidPoly, {"value": value}, root_part, many=1, poly=value)
        for value in NO_COUNT + [0, 49, 10 ** 20]:
            self.fails(InvalidMany, {"value": value}, root_part, [1, 1], value)
            self.fails(InvalidMany, {"value": value}, root_part, [5], value)
        for poly in [[], [5], (0, 0), [HALF, 0]]:
            for many in [1, 2, 48]:
                self.fails(OnlyNumber, {}, root_part, poly, many)


if __name__ == "__main__":
    unittest.main()
