"""[56] and [57]: rooms that keep polynomials apart from makers, and what is made modulo a clock."""

import random
import time
import unittest

from fromplaces.bases import common_degree, inner_part
from fromplaces.errors import InvalidClock, InvalidMakers, InvalidPoly, TooMany
from fromplaces.inner import outer
from fromplaces.kept import is_kept_apart, kept_apart, local_made
from fromplaces.made import is_made, left
from fromplaces.polys import degree, plus, put_in, scaled, times, told
from fromplaces.ratios import Ratio
from fromplaces.rooms import Room
from oracle import fractions, hull, lowered, rest
from support import NO_CLOCK, NO_KIND, NO_MAKERS, NO_POLY, Case, digits_of, six_digits, small_makers

HALF = Ratio(1, 2)
MAKERS = [[0, 0, 1], [0, -1, 0, 1]]
PLACE, STOP = Room([-1, 0, 1], MAKERS), Room([0, 0, 0, 2], [[0, 0, 1]])


class KeptApart(Case):

    def check(self, makers, poly):
        found = self.unchanged(kept_apart, makers, poly)
        if is_made(makers, poly):
            self.assertIsNone(found)
            return found
        self.assertIs(type(found), Room)
        self.assertIs(is_kept_apart(makers, poly, found), True)
        # By own reckoning: all makers lie in the room, and the polynomial does not.
        clock = fractions(found.clock())
        heads = {len(one) - 1: one for one in [fractions(row[::-1]) for row in found.rows()]}
        for one in makers:
            self.assertEqual(lowered(rest(fractions(one), clock), heads), [])
        self.assertNotEqual(lowered(rest(fractions(poly), clock), heads), [])
        self.assertLessEqual(max([digits_of(row) for row in found.rows()] + [digits_of(found.clock())]), 2000)
        self.assertIs(local_made(makers, poly, found.clock()), False)
        return found

    def test_common_degree_one(self):
        for makers, poly in [
            (MAKERS, [0, 1]), (MAKERS, [0, 1, 0, 0, 1]), ([[0, 0, 1], [0, 0, 0, 1]], [5, HALF]), (MAKERS, [0] * 23 + [1, 1]),
            ([[0, 0, 0, 1], [0, 0, 0, 0, 1], [0, 0, 0, 0, 0, 1]], (0, 0, 3, 0)), ([[0, 0, 0, 1], [0, 1, 1]], [0, 1]),
        ]:
            self.assertIsNotNone(self.check(makers, poly))
        for makers, poly in [(MAKERS, [7, 0, -3]), (MAKERS, []), (MAKERS, [HALF]), ([[0, 1]], [0] * 24 + [1]), ([[3, 4]], [0, 1])]:
            self.assertIsNone(self.check(makers, poly))

    def test_common_degree_above_one(self):
        for makers in [[[0, 0, 1]], [[1, 2, 1], [0, 4, 6, 4, 1]], [[0] * 7 + [2]], ([0, 0, 0, 1], [0] * 6 + [1])]:
            for poly in [[0, 1], [0, 0, 0, 0, 0, 1], [5, 1, 1], [0] * 24 + [1], [0] * 23 + [HALF], [0, 0, 1], [0] * 6 + [1]]:
                self.check(makers, poly)
        # Of the inner part t t, but not made: the clock is t to the 4.
        found = self.check([[0, 0, 0, 0, 1], [0] * 6 + [1]], [0, 0, 1])
        self.assertEqual(degree(found.clock()) % 2, 0)
        # Its rest modulo t t - a is a number for a = 0, 1, 2, 3.
        poly = [0, 0, 0, -6, 0, 11, 0, -6, 0, 1]
        self.assertEqual(len(self.check([[0, 0, 1]], poly).rows()), 1)
        poly = [0, 1]
        for number in range(11):
            poly = times(poly, [-number, 0, 1])
        self.check([[0, 0, 1]], poly)

    def test_any(self):
        source = random.Random(71)
        for _ in range(60):
            makers = small_makers(source, 5)
            if source.random() < 0.3:
                makers = [put_in(one, [0, 1, 1]) for one in small_makers(source, 2)]
            for _ in range(3):
                poly = [source.randint(-2, 2) for _ in range(source.randint(0, 25))]
                try:
                    self.check(makers, poly)
                except TooMany:
                    self.assertIs(is_made(makers, poly), False)
                self.check(makers, times(makers[0], plus(makers[-1], [HALF])))

    def test_degree(self):
        for poly in [[0] * 25 + [1], [0] * 48 + [HALF]]:
            for makers in [MAKERS, [[0, 1]], [[0, 0, 1]], [[0] * 6 + [1], [0] * 7 + [1]]]:
                self.fails(TooMany, {"what": "degree", "limit": 24}, kept_apart, makers, poly)
        self.check(MAKERS, [0] * 24 + [1] + [0] * 24)
        self.assertIs(is_kept_apart(MAKERS, [0] * 25 + [1], PLACE), True)
        self.assertIs(is_kept_apart(MAKERS, [0] * 48 + [1], PLACE), False)
        self.assertIs(is_kept_apart([[0, 0, 1]], [0] * 47 + [1], Room([0, 0, 0, 1], [[0, 0, 1]])), False)
        self.assertIs(is_kept_apart([[0, 0, 1]], [0] * 47 + [1], Room([-1, 0, 1], [])), True)

    def test_clock(self):
        # The clock of t to the 5 and the 6 is t to the 20, that of t to the 4 and the 7 t to the 18.
        for makers in [[[0] * 5 + [1], [0] * 6 + [1]], [[0] * 4 + [1], [0] * 7 + [1]], [[0] * 6 + [1], [0] * 3 + [1, 1]]]:
            self.assertIsNotNone(self.check(makers, [0, 1]))
        # Those of the 5 and the 7, and of the 6 and the 7, are of the degrees 24 and 30.
        for makers in [[[0] * 5 + [1], [0] * 7 + [1]], [[0] * 6 + [1], [0] * 7 + [1]], [[1] * 8, [2, 0, 0, 1, 0, 0, 1]]]:
            for poly in [[0, 1], [0, 0, 0, HALF], [0] * 23 + [1]]:
                self.fails(TooMany, {"what": "clock", "limit": 20}, kept_apart, makers, poly)
            self.assertIsNone(self.check(makers, times(makers[0], makers[1])))
            self.fails(TooMany, {"what": "degree", "limit": 24}, kept_apart, makers, [0] * 25 + [1])

    def test_clocks_of_the_inner_part(self):
        # t to the 4 and the 6 are t t and t t t of t t; to the 6 and to the 3 all of t t t.
        makers = [[0, 0, 0, 0, 1], [0] * 6 + [1]]
        self.assertEqual([common_degree(makers), inner_part(makers)], [2, told([0, 0, 1])])
        room = self.check(makers, [0, 0, 1])
        self.assertIsNotNone(outer(room.clock(), [0, 0, 1]))
        self.assertIs(room.holds(makers[0]), True)
        self.assertIsNotNone(self.check(makers, [0, 1]))

    def test_great_fractions(self):
        source = random.Random(72)
        begun = time.monotonic()
        for sizes in [(5, 6), (4, 6), (2, 7), (3, 4), (4, 7), (6,), (7, 7, 7, 7)]:
            makers = [six_digits(source, size) for size in sizes]
            self.check(makers, six_digits(source, 24))
            self.check(makers, times(makers[0], makers[-1]))
        makers = [six_digits(source, 6), six_digits(source, 7)]
        self.fails(TooMany, {"what": "clock", "limit": 20}, kept_apart, makers, six_digits(source, 24))
        self.assertLess(time.monotonic() - begun, 30)

    def test_is_kept_apart_of_any_value(self):
        self.assertIs(is_kept_apart(MAKERS, [0, 1], PLACE), True)
        self.assertIs(is_kept_apart(value=PLACE, poly=(0, 1, 0), makers=tuple(MAKERS)), True)
        wrong = [STOP, Room([-1, 0, 1], [[0, 1]]), Room([0, 0, 1], []), Room([-1, 1], []), None, [], [PLACE], (PLACE,)]
        for value in wrong + NO_KIND + [5, HALF, PLACE.rows(), Room]:
            self.assertIs(is_kept_apart(MAKERS, [0, 1], value), False, value)
        for poly in [[], [5], [0, 0, 1], [1, 0, 0, 0, 7], [0, -1, 0, 1]]:
            self.assertIs(is_kept_apart(MAKERS, poly, PLACE), False)
        # A room that lies in no way with the clock of the makers serves as well.
        self.assertIs(is_kept_apart([[0, 0, 1]], [0, 1], Room([-9, 0, 1], [])), True)
        self.assertIs(is_kept_apart(MAKERS, [0, 1], Room([0, -1, 0, 1], [[0, 0, 1], [0, -1, 0, 1]])), True)

    def test_wrong_values(self):
        for value in NO_MAKERS:
            self.fails(InvalidMakers, {"value": value}, kept_apart, value, "later")
            self.fails(InvalidMakers, {"value": value}, is_kept_apart, value, "later", PLACE)
            self.fails(InvalidMakers, {"value": value}, local_made, value, "later", "later")
        for value in NO_POLY:
            self.fails(InvalidPoly, {"value": value}, kept_apart, MAKERS, value)
            self.fails(InvalidPoly, {"value": value}, kept_apart, poly=value, makers=[[0] * 6 + [1], [0] * 7 + [1]])
            self.fails(InvalidPoly, {"value": value}, is_kept_apart, MAKERS, value, PLACE)
            self.fails(InvalidPoly, {"value": value}, local_made, MAKERS, value, "later")
        for value in NO_CLOCK:
            self.fails(InvalidClock, {"value": value}, local_made, MAKERS, [0, 1], value)
            self.fails(InvalidClock, {"value": value}, local_made, clock=value, poly=[], makers=MAKERS)


class LocalMade(Case):

    def test_by_hand(self):
        self.assertIs(local_made(MAKERS, [0, 1], [-1, 0, 1]), False)
        self.assertIs(local_made(MAKERS, [0, 1], [-2, 1]), True)
        self.assertIs(local_made([[0, 0, 1]], [0, 1], [1, 0, 1]), False)
        self.assertIs(local_made(clock=[0, 0, 1], poly=[0, 1], makers=[[0, 0, 1], [0, 0, 0, 1]]), False)
        self.assertIs(local_made([[0, 0, 1]], [0, 1], [-1, 0, 0, 1]), True)

    def test_any(self):
        source = random.Random(73)
        for _ in range(60):
            makers = small_makers(source)
            poly = [source.randint(-2, 2) for _ in range(source.randint(0, 9))]
            clock = [source.randint(-2, 2) for _ in range(source.randint(1, 7))] + [HALF]
            wanted = lowered(rest(fractions(poly), fractions(clock)), hull(clock, makers)) == []
            self.assertIs(self.unchanged(local_made, makers, poly, clock), wanted)
            self.assertIs(local_made(makers, scaled(poly, 7), clock), wanted)
            self.assertIs(local_made(makers, plus(poly, [0] * 3 + clock), clock), wanted)

    def test_what_is_made_is_so_modulo_each_clock(self):
        source = random.Random(74)
        for _ in range(20):
            makers = small_makers(source, 5)
            poly = [source.randint(-2, 2) for _ in range(12)]
            made = plus(poly, scaled(left(makers, poly), -1))
            for clock in [[1, 1], [0, 0, 1], [-1, 0, 1], [source.randint(-9, 9) for _ in range(12)] + [1], [0] * 20 + [1]]:
                self.assertIs(local_made(makers, made, clock), True)


if __name__ == "__main__":
    unittest.main()
