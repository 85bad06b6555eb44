"""[62] and [64]: houses of rooms, clocks of houses, the least clock of a room."""

import random
import time
import unittest

from fromplaces.clocks import house_of, is_clock_of, least_clock
from fromplaces.errors import InvalidHouse, InvalidPoly, InvalidRoom, TooMany
from fromplaces.houses import House
from fromplaces.polys import degree, divided, plus, put_in, scaled, times, told
from fromplaces.ratios import Ratio
from fromplaces.rooms import Room, within
from support import NO_KIND, NO_POLY, Case, ratios, six_digits, small_makers
from test_houses import CROSS, CUSP, kinds

HALF = Ratio(1, 2)
FLAT = Room([0, 0, 0, 1], [[0, 0, 1]])
# Rooms, with the least clock and the degrees of the full base of their house.
KNOWN = [
    (FLAT, [0, 0, 1], [2, 3]), (Room([0, 0, 1], []), [0, 0, 1], [2, 3]), (Room([0, 1], []), [1], [1]),
    (Room([-1, 0, 1], []), [-1, 0, 1], [2, 3]), (Room([0, 0, 0, 1], [[0, 1]]), [1], [1]), (Room([0] * 5 + [1], []), [0] * 5 + [1], [5, 6, 7, 8, 9]),
    (Room([0] * 11 + [1], []), [0] * 11 + [1], list(range(11, 22))), (Room([0] * 20 + [1], [[0, 0, 1]]), [0] * 20 + [1], [2, 21]),
    (Room([0, -1, 0, 1], [[0, 0, 1], [0, -1, 0, 1]]), [-1, 0, 1], [2, 3]),
    (Room([0, 0, -1, 0, 1], [[0, -1, 0, 1], [0, 0, 1]]), [-1, 0, 1], [2, 3]),
    (Room([0, 0, -1, 0, 1], [[0, 0, 1]]), [0, 0, -1, 0, 1], [2, 5]),
    (Room([-6, 11, -6, 1], []), [-6, 11, -6, 1], [3, 4, 5]), (Room([-6, 11, -6, 1], [[2, -3, 1]]), [2, -3, 1], [2, 3]),
]
NO_ROOM = NO_KIND + [5, HALF, [], [[1]], Room, FLAT.rows(), House(CUSP)]
NO_HOUSE = NO_KIND + [5, HALF, [], CUSP, House, FLAT, House(CUSP).base()]


def some_rooms():
    source = random.Random(91)
    rooms = [room for room, _, _ in KNOWN]
    for clock in [
        [0, 0, 0, 1], [0, 0, -1, 0, 1], [0] * 7 + [1], [4, 0, -5, 0, 1], [1, 0, 2, 0, 1], [-1, 0, 0, 0, 0, 0, 1], [0, 6, -11, 6, -1],
        times([0, 0, 1], [1, 0, 2, 0, 1]), times([1, 2, 1], [0, -1, 0, 0, 1]), [HALF] + [0] * 9 + [1],
    ]:
        for _ in range(3):
            polys = [[source.randint(-2, 2) * source.randint(0, 1) for _ in range(source.randint(1, 9))] for _ in range(2)]
            rooms.append(Room(clock, polys))
    return rooms


class LeastClock(Case):

    def test_known(self):
        for room, clock, _ in KNOWN:
            self.assertEqual(self.unchanged(least_clock, room), ratios(*clock))

    def test_any(self):
        for room in some_rooms():
            found = self.unchanged(least_clock, room)
            self.is_told(found)
            self.assertEqual(found[-1], Ratio(1))
            self.assertEqual(divided(room.clock(), found)[1], [])
            self.assertEqual(degree(found) == 0, room.is_all)
            if not room.is_all:
                self.assertGreater(degree(found), room.ties)
                self.assertLessEqual(degree(found), 2 * room.ties)
            for at in range(degree(room.clock())):
                self.assertIs(room.holds([0] * at + found), True)
            # Each factor that is taken off, among the divisors with roots that are whole, leaves less than a clock.
            for root in range(-4, 5):
                factor, rest = divided(found, [-root, 1])
                if not rest:
                    self.assertIs(all(room.holds([0] * at + factor) for at in range(20)), False)

    def test_without_a_limit_of_gaps(self):
        self.assertEqual(least_clock(Room([0] * 20 + [3], [])), ratios(*[0] * 20, 1))
        self.assertEqual(least_clock(room=Room([0] * 18 + [1], [[0] * 17 + [1]])), ratios(*[0] * 17, 1))
        self.assertEqual(degree(least_clock(Room([1] * 21, []))), 20)

    def test_rooms(self):
        for value in NO_ROOM:
            self.fails(InvalidRoom, {"value": value}, least_clock, value)
            self.fails(InvalidRoom, {"value": value}, house_of, value)
            self.fails(InvalidRoom, {"value": value}, house_of, room=value)


class HouseOf(Case):

    def test_of_rooms_of_houses(self):
        for makers in kinds():
            house = House(makers)
            room = house.room()
            if room is not None:
                self.assertEqual(self.unchanged(house_of, room), house)
                self.assertEqual(least_clock(room), house.clock())
                wide = 20 - degree(house.clock())
                for more in [[0, 1], [3, 0, 1], [-1, 1]]:
                    if wide >= degree(more):
                        self.same(house_of(Room(times(house.clock(), more), makers)), house)

    def same(self, found, house):
        self.assertEqual(found, house)
        self.assertEqual(repr(found), repr(house))
        for name in ["base", "gaps", "clock", "room"]:
            self.assertEqual(getattr(found, name)(), getattr(house, name)())
        for poly in [[], [0, 1], [0] * 48 + [1], [1, 2, HALF, 0, 0, 7, 8, 9, 1]]:
            self.assertEqual([found.left(poly), found.holds(poly)], [house.left(poly), house.holds(poly)])

    def test_any_room(self):
        source = random.Random(92)
        for room in some_rooms():
            if room.ties > 10:
                self.fails(TooMany, {"what": "gaps", "limit": 10}, house_of, room)
                continue
            house = house_of(room)
            self.assertIs(type(house), House)
            self.alike(house.gap_count, room.ties)
            self.assertEqual(house.clock(), least_clock(room))
            self.assertEqual(house.gaps(), [n for n in range(degree(room.clock())) if n not in room.heads()])
            for _ in range(6):
                poly = [source.randint(-2, 2) for _ in range(source.randint(0, 49))]
                self.assertIs(house.holds(poly), room.holds(poly))
                self.assertIs(room.holds(plus(poly, scaled(house.left(poly), -1))), True)
            for one in house.base():
                self.assertIs(room.holds(one), True)
            inside = house.room()
            if inside is not None:
                self.assertEqual(house_of(inside), house)
                is_its_own = degree(house.clock()) == degree(room.clock())
                self.assertIs(inside == room, is_its_own)

    def test_bases(self):
        for room, clock, counts in KNOWN:
            if room.ties <= 10:
                house = house_of(room)
                self.assertEqual([degree(one) for one in house.base()], counts)
                self.assertEqual(house.clock(), ratios(*clock))
                if max(counts) < 8 and len(counts) < 5:
                    self.assertEqual(house, House(house.base()))
        self.assertEqual(house_of(room=FLAT), House(CUSP))
        self.assertIsNone(house_of(Room([7, 1], [])).room())

    def test_gaps(self):
        self.assertEqual(house_of(Room([0] * 11 + [1], [])).gap_count, 10)
        for room in [Room([0] * 12 + [1], []), Room([0] * 20 + [1], []), Room([1] * 21, [[0] * 7 + [1]])]:
            if room.ties > 10:
                self.fails(TooMany, {"what": "gaps", "limit": 10}, house_of, room)
        self.assertEqual(Room([0] * 12 + [1], []).ties, 11)

    def test_houses_of_rooms_serve(self):
        house = house_of(Room([0] * 11 + [1], []))
        self.assertEqual(house.base(), [ratios(*[0] * at, 1) for at in range(11, 22)])
        self.assertEqual(house.left([1] * 49), ratios(0, *[1] * 10))
        self.assertIs(is_clock_of(house, [0] * 11 + [1]), True)
        for value in NO_POLY:
            self.fails(InvalidPoly, {"value": value}, house.holds, value)


class IsClockOf(Case):

    def test_any_value(self):
        cross = House(CROSS)
        for value in [[-1, 0, 1], [3, 0, -3], (-1, 0, 1, 0), [0, -1, 0, 1], times([-1, 0, 1], [5, HALF, 7]), [-1] + [0] * 47 + [1]]:
            self.assertIs(is_clock_of(cross, value), True, value)
            self.assertIs(is_clock_of(value=value, house=cross), True, value)
        for value in NO_POLY + [[], [0], (0, 0), [5], [1], [-1, 1], [1, 1], [0, 0, 1], [0, 1], [1, 0, 1], [-1] + [0] * 46 + [1]]:
            self.assertIs(is_clock_of(cross, value), False, value)
        for value in [[1], [HALF], [0, 1], [7, 0, 2], [0] * 48 + [1]]:
            self.assertIs(is_clock_of(House([[0, 1]]), value), True)
        for value in [[], [0], None, True, 5]:
            self.assertIs(is_clock_of(House([[0, 1]]), value), False)

    def test_all_houses(self):
        for makers in kinds():
            house = House(makers)
            clock = house.clock()
            for value, wanted in [
                (clock, True), (scaled(clock, Ratio(-3, 7)), True), (times(clock, [1, 2, 3]), True), (plus(clock, [1]), degree(clock) == 0),
                ([1], degree(clock) == 0), (times(clock, [0, 1]), True), (told([*clock, 1]), divided([*clock, 1], clock)[1] == []),
            ]:
                self.assertIs(self.unchanged(is_clock_of, house, value), wanted)
            for one in makers:
                self.assertIs(is_clock_of(house, one), divided(one, clock)[1] == [])

    def test_houses(self):
        for value in NO_HOUSE:
            self.fails(InvalidHouse, {"value": value}, is_clock_of, value, [1])
            self.fails(InvalidHouse, {"value": value}, is_clock_of, value=None, house=value)


class Great(Case):

    def test_great_fractions(self):
        source = random.Random(93)
        begun = time.monotonic()
        for size in (2, 4, 5):
            inner = six_digits(source, size)
            clock = put_in(six_digits(source, 20 // size), inner)
            room = Room(clock, [inner])
            self.assertEqual(least_clock(room), room.clock())
            if room.ties <= 10:
                house = house_of(room)
                self.assertEqual([degree(one) for one in house.base()], [2, 21])
                self.assertEqual(house.room(), room)
        for size in (2, 6, 10):
            # All multiples of the first one lie in the room.
            first = six_digits(source, size)
            clock = times(first, six_digits(source, 20 - size))
            room = Room(clock, [first] + [times(first, [0] * at + [1]) for at in range(1, 11)])
            self.assertEqual(least_clock(room), scaled(first, Ratio(1).over(first[-1])))
            self.assertEqual(house_of(room).gap_count, size - 1)
            self.assertIs(within(room, Room(clock, [[0, 1]])), True)
        room = Room(six_digits(source, 20), [six_digits(source, 48) for _ in range(12)])
        self.assertEqual([least_clock(room), house_of(room)], [ratios(1), House([[0, 1]])])
        self.assertEqual(degree(least_clock(Room(six_digits(source, 20), []))), 20)
        self.assertLess(time.monotonic() - begun, 30)


if __name__ == "__main__":
    unittest.main()
