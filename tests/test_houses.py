"""[61] to [63], [65]: houses, their gaps, clocks and rooms."""

import random
import time
import unittest

from fromplaces.bases import common_degree, full_base, met_counts
from fromplaces.counts import gaps
from fromplaces.errors import InvalidMakers, InvalidPoly, NotAll, TooMany
from fromplaces.houses import House
from fromplaces.made import left
from fromplaces.polys import degree, divided, minus, plus, put_in, scaled, times, told
from fromplaces.ratios import Ratio
from fromplaces.rooms import Room
from oracle import fractions, lowered, made_of
from support import NO_KIND, NO_MAKERS, NO_POLY, Case, ratios, six_digits, small_makers

HALF = Ratio(1, 2)
CROSS, CUSP = [[0, 0, 1], [0, -1, 0, 1]], [[0, 0, 1], [0, 0, 0, 1]]
# Makers, with the gaps and the clock of their house.
KNOWN = [
    (CROSS, [1], [-1, 0, 1]), (CUSP, [1], [0, 0, 1]), ([[0, 1]], [], [1]), ([[0, 0, 1], [0, 1, 1]], [], [1]), (([5, HALF],), [], [1]),
    ([[0, 0, 0, 1], [0, 0, 0, 0, 1]], [1, 2, 5], [0] * 6 + [1]), ([[0, 0, 0, 1], [0] * 4 + [1], [0] * 5 + [1]], [1, 2], [0, 0, 0, 1]),
    ([[0] * 5 + [1], [0] * 6 + [1]], [1, 2, 3, 4, 7, 8, 9, 13, 14, 19], [0] * 20 + [1]),
    ([[0, 0, 1], [0] * 7 + [1]], [1, 3, 5], [0] * 6 + [1]), ([[0, 0, 0, 0, 1], [0] * 6 + [1], [0] * 7 + [1]], [1, 2, 3, 5, 9], [0] * 10 + [1]),
]


def kinds():
    source = random.Random(81)
    found = [makers for makers, _, _ in KNOWN]
    while len(found) < 60:
        makers = small_makers(source)
        if common_degree(makers) == 1 and len(gaps(met_counts(makers))) <= 10:
            found.append(makers)
    return found


class Houses(Case):

    def test_known(self):
        for makers, missing, clock in KNOWN:
            house = self.unchanged(House, makers)
            self.assertEqual(house.gaps(), missing)
            self.alike(house.gap_count, len(missing))
            self.assertEqual(house.clock(), ratios(*clock))
            self.assertEqual(house.base(), full_base(makers))

    def test_what_it_tells(self):
        for makers in kinds():
            house = House(makers)
            base = self.unchanged(house.base)
            self.assertEqual(base, full_base(makers))
            missing = self.unchanged(house.gaps)
            self.is_integers(missing)
            self.assertEqual(missing, gaps(met_counts(makers)))
            self.alike(house.gap_count, len(missing))
            clock = self.unchanged(house.clock)
            self.is_told(clock)
            self.assertEqual(clock[-1], Ratio(1))
            room = self.unchanged(house.room)
            if not missing:
                self.assertEqual(clock, ratios(1))
                self.assertIsNone(room)
                continue
            self.assertLessEqual(2, degree(clock))
            self.assertLessEqual(degree(clock), 2 * len(missing))
            self.assertGreater(degree(clock), missing[-1])
            self.assertIs(type(room), Room)
            self.assertEqual(room, Room(clock, full_makers(makers)))
            self.assertEqual(room.clock(), clock)
            self.assertEqual(room.ties, len(missing))
            self.assertEqual(room.heads(), [n for n in range(degree(clock)) if n not in missing])

    def test_clock_is_the_least(self):
        for makers in kinds():
            house = House(makers)
            clock = house.clock()
            if degree(clock) == 0:
                continue
            made = made_of(makers, 44)
            for at in range(8):
                self.assertEqual(lowered([0] * at + fractions(clock), made), [])
            # By own reckoning: no polynomial of a lesser degree has all its multiples made. Its multiples by
            # powers of t leave rows, and those below the clock's degree hang not on one another.
            rows = []
            for power in range(degree(clock)):
                row = []
                for at in range(degree(clock)):
                    low = lowered([0] * (power + at) + fractions([1]), made)
                    row.extend([low[gap] if gap < len(low) else 0 for gap in house.gaps()])
                rows.append(row)
            self.assertEqual(rank(rows), degree(clock))

    def test_a_factor_taken_off(self):
        for roots in [(0, 0), (1, -1), (0, 3)]:
            clock = times([-roots[0], 1], [-roots[1], 1])
            makers = [clock, times(clock, [0, 1])]
            house = House(makers)
            self.assertEqual([house.clock(), house.gaps()], [clock, [1]])
            for root in roots:
                factor = divided(clock, [-root, 1])[0]
                self.assertIs(all(house.holds(times([0] * at + [1], factor)) for at in range(3)), False)

    def test_holds_and_left(self):
        source = random.Random(82)
        for makers in kinds():
            house, clock = House(makers), House(makers).clock()
            made = made_of(makers, 44)
            for size in [0, 1, 4, 12, 25, 30]:
                poly = [Ratio(source.randint(-3, 3), source.choice([1, 2])) for _ in range(size)]
                found = self.unchanged(house.left, poly)
                self.is_told(found)
                self.assertEqual(fractions(found), lowered(fractions(poly), made))
                self.assertIs(self.unchanged(house.holds, poly), found == [])
                self.assertIs(house.holds(minus(poly, found)), True)
                if size < 26:
                    self.assertEqual(found, left(makers, poly))
            for more in [[1], [0] * 9 + [1, 3], [source.randint(-2, 2) for _ in range(48 - degree(clock))]]:
                self.assertIs(house.holds(times(clock, more)), True)
                self.assertEqual(house.left(plus(times(clock, more), [0, 1])), house.left([0, 1]))
            house.holds([source.randint(-2, 2) for _ in range(49)])
        cross = House(CROSS)
        self.assertEqual(cross.left([5, 3, 0, 0, 1]), ratios(0, 3))
        self.assertIs(cross.holds(poly=[0] * 48 + [1]), True)
        self.assertIs(cross.holds([0] * 47 + [1]), False)
        self.assertEqual(cross.left(poly=[0] * 47 + [1]), ratios(0, 1))
        self.assertEqual(House([[0, 1]]).left([1] * 49), [])

    def test_example(self):
        house = House(CROSS)
        self.assertEqual([house.gaps(), house.clock(), house.room().rows()], [[1], ratios(-1, 0, 1), [ratios(0, 1)]])
        for more in [[1], [0, 1], [5, HALF, 3]]:
            self.assertIs(house.holds(times([-1, 0, 1], more)), True)
        self.assertEqual(House(CUSP).clock(), ratios(0, 0, 1))

    def test_equal(self):
        for makers, other in [
            (CUSP, [[0, 0, 0, -1], [0, 0, 1, 1]]), (CROSS, [[3, 0, 2], [1, -1, 0, 1]]), ([[0, 1]], [[0, 0, 1], [5, 1, 1]]),
            ([[0, 0, 0, 1], [0, 0, 0, 0, 1]], [[0] * 4 + [2], [1, 0, 0, 7], [0] * 6 + [1, 1]]),
        ]:
            self.assertTrue(House(makers) == House(other))
            self.assertFalse(House(makers) != House(other))
        for makers, other in [(CUSP, CROSS), ([[0, 1]], CUSP), (CUSP, [[0, 0, 1], [0] * 5 + [1]])]:
            self.assertFalse(House(makers) == House(other))
            self.assertTrue(House(makers) != House(other))
        for other in NO_KIND + [5, CUSP, full_base(CUSP), House, Room([0, 0, 1], [])]:
            self.assertIs(House(CUSP) == other, False)
            self.assertIs(House(CUSP) != other, True)

    def test_repr(self):
        zero, one = "Ratio(0, 1)", "Ratio(1, 1)"
        self.assertEqual(repr(House([[0, 0, 0, 1], [1, 0, 2]])), f"House([[{zero}, {zero}, {one}], [{zero}, {zero}, {zero}, {one}]])")
        self.assertEqual(repr(House([[0, 5]])), f"House([[{zero}, {one}]])")

    def test_it_never_changes(self):
        makers = [[0, 0, 1], [0, -1, 0, 1]]
        house = House(makers)
        makers[1][1] = 7
        makers.append([0, 1])
        for found in [house.base(), house.gaps(), house.clock(), house.left([0, 1])]:
            found[0] = 9
            found.append(3)
        house.base()[0][0] = 8
        house.room().rows()[0][0] = 5
        self.assertEqual([house.gaps(), house.clock(), house.base()], [[1], ratios(-1, 0, 1), full_base(CROSS)])
        self.assertEqual(house, House(CROSS))


class Errors(Case):

    def test_makers(self):
        for value in NO_MAKERS:
            self.fails(InvalidMakers, {"value": value}, House, value)
            self.fails(InvalidMakers, {"value": value}, House, makers=value)

    def test_not_all(self):
        for makers in [[[0, 0, 1]], [[1, 2, 1], [0, 4, 6, 4, 1]], [[0] * 6 + [1], [0, 0, 0, 5]], [[0] * 7 + [1]], [[3, 1, 1]] * 4]:
            self.fails(NotAll, {}, House, makers)
        source = random.Random(83)
        for _ in range(20):
            makers = [put_in(one, [0, 2, 1]) for one in small_makers(source, 2)]
            self.fails(NotAll, {}, House, makers)

    def test_gaps(self):
        self.assertEqual(House([[0] * 5 + [1], [0, 1] + [0] * 4 + [1]]).gap_count, 10)
        self.assertEqual(House([[0] * 4 + [1], [0, 0, 1, 0, 0, 0, 0, 1]]).gap_count, 9)
        for makers in [
            [[0] * 5 + [1], [0] * 7 + [1]], [[1] * 7, [1] * 8], [[0, 1, 0, 0, 0, 0, 1], [0] * 7 + [1]],
            [[0] * 6 + [1], [0, 1] + [0] * 5 + [1]],
        ]:
            self.fails(TooMany, {"what": "gaps", "limit": 10}, House, makers)

    def test_polys(self):
        for value in NO_POLY:
            for house in [House(CROSS), House([[0, 1]])]:
                self.fails(InvalidPoly, {"value": value}, house.holds, value)
                self.fails(InvalidPoly, {"value": value}, house.left, poly=value)


class Great(Case):

    def test_great_fractions(self):
        source = random.Random(84)
        begun = time.monotonic()
        for sizes in [(5, 6), (4, 7), (4, 6), (2, 7), (7, 7, 7, 7), (7, 7, 7), (3, 7)]:
            makers = [six_digits(source, size) for size in sizes]
            house = House(makers)
            room = house.room()
            self.assertEqual(house.gap_count, room.ties if room else 0)
            house.holds(six_digits(source, 48))
            self.assertIs(house.holds(times(house.clock(), six_digits(source, 48 - degree(house.clock())))), True)
            self.assertEqual(house.left(plus(times(makers[0], makers[-1]), [0, 1])), house.left([0, 1]))
            self.assertEqual(House([scaled(one, Ratio(7, 999983)) for one in makers[::-1]]), house)
        self.fails(TooMany, {"what": "gaps", "limit": 10}, House, [six_digits(source, 6), six_digits(source, 7)])
        self.assertLess(time.monotonic() - begun, 30)

    def test_four_makers_of_a_clock(self):
        source = random.Random(85)
        clock = times([Ratio(-3, 7), 1], [Ratio(12345, 6789), 1])
        makers = [plus(times(clock, six_digits(source, 5)), [source.randint(1, 9)]) for _ in range(4)]
        house = House(makers)
        self.assertEqual([house.gaps(), house.clock()], [[1], clock])


def full_makers(makers):
    return [told(one) for one in makers]


def rank(rows):
    rows, done = [list(row) for row in rows], 0
    for at in range(len(rows[0])):
        place = next((k for k in range(done, len(rows)) if rows[k][at] != 0), None)
        if place is not None:
            rows[done], rows[place] = rows[place], rows[done]
            for k in range(done + 1, len(rows)):
                part = rows[k][at] / rows[done][at]
                if part:
                    rows[k] = [a - part * b for a, b in zip(rows[k], rows[done])]
            done += 1
    return done


if __name__ == "__main__":
    unittest.main()
