"""[43]: what is left, what is made, makings of it, and the made polynomial of each met degree."""

import random
import time
import unittest

from fromplaces.bases import met_counts
from fromplaces.counts import is_met
from fromplaces.errors import InvalidMakers, InvalidMany, InvalidPoly, TooMany
from fromplaces.made import is_made, is_making_of, left, making_of, taken_to
from fromplaces.makings import is_making, made_by
from fromplaces.polys import degree, minus, plus, put_in, scaled, times, told
from fromplaces.ratios import Ratio
from oracle import fractions, lowered, made_of
from support import NO_COUNT, NO_KIND, NO_MAKERS, NO_POLY, Case, digits_of, ratios, six_digits, small_makers

HALF = Ratio(1, 2)
PEN = [[3, 0, 2], [0, -1, 0, 1]]
EVEN = [[1, 2, 1], [0, 4, 6, 4, 1]]
SOME = [
    PEN, EVEN, [[0, 0, 1]], ([5, 3],), [[0, 0, 0, 0, 1], [0, 0, 0, 1, 0, 0, 1]], [[0] * 7 + [HALF]],
    [[0, 0, 1, 2, 1], [0, 0, 0, 1, 3, 3, 1]], [[0, 0, 0, 1], [1, 0, 0, 0, 1], [0, 1, 0, 0, 0, 1]],
]


def some_polys(source, most=24):
    return [[], [7], [0, 1]] + [
        [Ratio(source.randint(-3, 3), source.choice([1, 2])) for _ in range(source.randint(1, most + 1))] for _ in range(6)
    ]


class Left(Case):

    def test_by_hand(self):
        self.assertEqual(left(PEN, [0, 1, 0, 0, 1]), ratios(0, 1))
        self.assertEqual(left([[0, 0, 1], [0, -1, 0, 1]], [0, 1, 0, 0, 1]), ratios(0, 1))
        self.assertEqual(left(PEN, [7]), [])
        self.assertEqual(left(PEN, []), [])
        self.assertEqual(left(poly=[0, 0, HALF], makers=[[0, 0, 0, 1]]), ratios(0, 0, "1/2"))
        self.assertEqual(left(EVEN, [0, 0, 1]), ratios(0, -2))
        self.assertIs(is_made(PEN, [0, -1, 0, 0, 0, 1]), True)
        self.assertIs(is_made(EVEN, [0, 0, 1]), False)
        self.assertIs(is_made(poly=[7], makers=PEN), True)
        self.assertIs(is_made(PEN, []), True)

    def test_by_closing_up(self):
        source = random.Random(51)
        for makers in SOME + [small_makers(source) for _ in range(30)]:
            made = made_of(makers, 42)
            for poly in some_polys(source):
                found = self.unchanged(left, makers, poly)
                self.is_told(found)
                self.assertEqual(fractions(found), lowered(fractions(poly), made))
                self.assertIs(is_made(makers, poly), found == [])
                self.assertIs(is_made(makers, minus(poly, found)), True)

    def test_sums_and_multiples(self):
        source = random.Random(52)
        for makers in SOME:
            one, other = some_polys(source)[-2:]
            both = plus(left(makers, one), left(makers, other))
            self.assertEqual(left(makers, plus(one, other)), both)
            self.assertEqual(left(makers, scaled(one, Ratio(-5, 3))), scaled(left(makers, one), Ratio(-5, 3)))
            self.assertEqual(left(makers, left(makers, one)), left(makers, one))

    def test_made_polynomials_leave_nothing(self):
        for makers in SOME:
            for one in makers:
                for other in makers:
                    poly = plus(times(one, other), scaled(one, HALF))
                    self.assertEqual(left(makers, poly), [])
                    self.assertIs(is_made(makers, poly), True)

    def test_degrees(self):
        for function in [left, is_made, making_of]:
            function(PEN, [0] * 24 + [1])
            function(PEN, [0] * 24 + [1] + [0] * 24)
            self.fails(TooMany, {"what": "degree", "limit": 24}, function, PEN, [0] * 25 + [1])
            self.fails(TooMany, {"what": "degree", "limit": 24}, function, [[0, 1]], [0] * 48 + [HALF])
        self.assertIs(is_making_of(PEN, [0] * 24 + [1], 5), False)
        self.fails(TooMany, {"what": "degree", "limit": 24}, is_making_of, PEN, [0] * 25 + [1], 5)

    def test_wrong_values(self):
        for value in NO_MAKERS:
            for function in [left, is_made, making_of]:
                self.fails(InvalidMakers, {"value": value}, function, value, "later")
                self.fails(InvalidMakers, {"value": value}, function, poly=[0] * 30 + [1], makers=value)
            self.fails(InvalidMakers, {"value": value}, is_making_of, value, "later", [[]])
            self.fails(InvalidMakers, {"value": value}, taken_to, value, -1)
        for value in NO_POLY:
            for function in [left, is_made, making_of]:
                self.fails(InvalidPoly, {"value": value}, function, PEN, value)
                self.fails(InvalidPoly, {"value": value}, function, poly=value, makers=PEN)
            self.fails(InvalidPoly, {"value": value}, is_making_of, PEN, value, [[]])


class Makings(Case):

    def check(self, makers, poly):
        found = self.unchanged(making_of, makers, poly)
        if not is_made(makers, poly):
            self.assertIsNone(found)
            return 0
        self.assertIs(is_making(makers, found), True)
        self.assertEqual(made_by(makers, found), told(poly))
        self.assertIs(is_making_of(makers, poly, found), True)
        self.assertIs(is_making_of(makers, plus(poly, [1]), found), False)
        self.assertLessEqual(max([len(line) for line in found]), 60)
        return max([digits_of([number for _, _, number in line]) for line in found])

    def test_any(self):
        source = random.Random(53)
        for makers in SOME + [small_makers(source) for _ in range(20)]:
            for poly in some_polys(source):
                self.check(makers, poly)
                self.check(makers, minus(poly, left(makers, poly)))

    def test_great_fractions(self):
        source = random.Random(54)
        begun = time.monotonic()
        for sizes in [(7, 7, 7, 7), (6, 7), (4, 6), (2, 3), (5, 6, 7), (6,), (1, 7), (7, 7)]:
            makers = [six_digits(source, size) for size in sizes]
            self.check(makers, six_digits(source, 24))
            one, other = makers[0], makers[-1]
            made = plus(times(one, other), scaled(one, Ratio(999983, 999979)))
            for poly in [made, times(one, made) if degree(one) + degree(made) < 25 else one, [Ratio(1, 999999)]]:
                self.assertIs(is_made(makers, poly), True)
                self.assertLessEqual(self.check(makers, poly), 2000)
        self.assertLess(time.monotonic() - begun, 60)

    def test_is_making_of_any_value(self):
        poly = [0, -1, 0, -1, 0, 2]
        for value in [
            [[(1, 2, 1), (0, 2, -2)]], ([(1, 2, 1), (0, 2, -2)],), [[], ((1, 2, Ratio(1)), (0, 2, -2), (3, 0, 9))],
        ]:
            self.assertIs(is_making_of(PEN, poly, value), True, value)
        wrong = NO_KIND + [
            [], [[]], [[(1, 2, 1), (0, 2, -1)]], [[(1, 2, 1), (0, 2, -2)], []], [[(1, 2, True), (0, 2, -2)]],
            [(1, 2, 1), (0, 2, -2)], [[[1, 2, 1], (0, 2, -2)]], [[(1, 2, 1), (0, 2, -2)]] * 201, 5, [5],
        ]
        for value in wrong:
            self.assertIs(is_making_of(PEN, poly, value), False, value)
        self.assertIs(is_making_of(value=[[]], poly=[], makers=PEN), True)
        self.assertIs(is_making_of(PEN, [0, 0, 1], [[(0, 1, HALF), (0, 0, Ratio(-3, 2))]]), True)
        self.assertIs(is_making_of(PEN, (0, 0, 1, 0), [[(0, 1, HALF), (0, 0, Ratio(-3, 2))]]), True)


class TakenTo(Case):

    def test_all_counts(self):
        for makers in SOME:
            counts = met_counts(makers)
            made = made_of(makers, 60)
            for many in range(49):
                found = self.unchanged(taken_to, makers, many)
                if not is_met(counts, many):
                    self.assertIsNone(found)
                    continue
                self.is_told(found)
                self.assertEqual([degree(found), found[-1]], [many, Ratio(1)])
                self.assertEqual(fractions(found), made[many])

    def test_by_hand(self):
        self.assertEqual(taken_to(PEN, 5), ratios(0, -1, 0, 0, 0, 1))
        self.assertIsNone(taken_to(PEN, 1))
        for makers in SOME:
            self.assertEqual(taken_to(makers, 0), ratios(1))
        self.assertEqual(taken_to(many=48, makers=[[4, 2]]), ratios(*[0] * 48, 1))
        made = put_in([0] * 6 + [1], [0] * 7 + [1])
        self.assertEqual(taken_to([[9] + [0] * 6 + [HALF]], 42), made)

    def test_great_fractions(self):
        source = random.Random(55)
        begun = time.monotonic()
        for sizes in [(6, 7), (2, 3), (7,), (2, 4), (4, 6), (7, 7, 7)]:
            makers = [six_digits(source, size) for size in sizes]
            many = 42 if sizes == (7,) else 48
            self.assertEqual(degree(taken_to(makers, many)), many)
        self.assertLess(time.monotonic() - begun, 30)

    def test_wrong_values(self):
        for value in NO_COUNT + [49, 10 ** 20]:
            self.fails(InvalidMany, {"value": value}, taken_to, PEN, value)
            self.fails(InvalidMany, {"value": value}, taken_to, many=value, makers=PEN)


if __name__ == "__main__":
    unittest.main()
