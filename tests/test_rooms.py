"""[7], [51] to [55]: rooms, their heads and rows, rooms together, rooms led."""

import random
import time
import unittest

from fromplaces.errors import InvalidClock, InvalidPoly, InvalidPolys, InvalidRoom, InvalidRows, NotDivided, UnlikeClocks
from fromplaces.polys import degree, divided, plus, put_in, scaled, times, told
from fromplaces.ratios import Ratio
from fromplaces.rests import hull_products, tried_hull
from fromplaces.rooms import Room, is_room, led_room, meet_room, room_by, sum_room, within
from fromplaces.solved import kernel, steps
from fromplaces.wholes import moduli
from oracle import fractions, hull, lowered, rest
from support import NO_CLOCK, NO_KIND, NO_POLY, Case, digits_of, ratios, six_digits, told_ratios

HALF = Ratio(1, 2)
NO_POLYS = NO_KIND + [
    5, HALF, [5], [HALF], [None], ["1"], [[True]], [[1], [False]], [[1], None], [[[1]]], [[1, "2"]], [[0] * 50],
    [[1]] * 13, ([1],) * 13, [[0, 1], 7], [{}], [[1], {1: 2}],
]
NO_ROOM = NO_KIND + [5, HALF, [], [[1]], [[0, 1], [[1]]], Room]
# Clocks with polynomials.
SOME = [
    ([-1, 0, 1], [[0, 0, 1], [0, -1, 0, 1]]), ([0, 0, 0, 2], [[0, 0, 1]]), ([0, 0, 0, 1], [[0, 1]]), ([0, 0, 0, 1], []),
    ([5, 3], []), ([5, 3], [[0, 1]]), ((1, 0, HALF, 0), ((1, 1, 1), [0] * 48 + [1])), ([0] * 20 + [-7], [[0] * 9 + [1]]),
    ([0] * 6 + [1], [[0, 0, 1, 0, 0, 1], [0, 0, 0, 1]]), ([1, 2, 3, 4, 5, 6], [[3], [], [HALF]]),
    ([0, 0, -1, 0, 1], [[0, 0, 1], [0, 0, 0, 1]]), ([1] * 21, [[0, 0, 0, 0, 0, 0, 0, 1]]),
]


def by_hand(clock, polys):
    """The rows of the least room, by own reckoning, as Fractions."""
    heads, wide = hull(clock, polys), len(fractions(clock)) - 1
    rows = []
    for power in sorted(heads, reverse=True):
        one = [number / heads[power][-1] for number in heads[power]]
        one = lowered(one[:-1], {other: low for other, low in heads.items() if other < power})
        one = one + [0] * (power - len(one)) + [1]
        rows.append(([0] * (wide - 1 - power)) + one[::-1])
    return rows


def some_room(source, clock, many=2):
    polys = [[source.randint(-2, 2) * source.randint(0, 1) for _ in range(source.randint(1, 9))] for _ in range(many)]
    return Room(clock, polys), polys


CLOCKS = [
    [0, 0, 0, 1], [-1, 0, 1], [0, 0, -1, 0, 1], [0] * 7 + [1], [4, 0, -5, 0, 1], [1, 0, 2, 0, 1], [-1, 0, 0, 0, 0, 0, 1],
    [0, 0, 1, 2, 1], times([1, 1, 1], [1, 1, 1]), [-2, 1], [0, 6, -11, 6, -1],
]


class Rooms(Case):

    def test_rows(self):
        source = random.Random(61)
        for clock, polys in SOME + [(clock, some_room(source, clock)[1]) for clock in CLOCKS * 8]:
            room = self.unchanged(Room, clock, polys)
            rows = self.unchanged(room.rows)
            self.assertEqual([fractions(row + [1]) for row in rows], [row + [1] for row in by_hand(clock, polys)])
            for row in rows:
                self.assertIs(type(row), list)
                self.assertEqual([type(one) for one in row], [Ratio] * degree(clock))
            self.assertEqual(rows, steps(rows))
            self.alike(room.size(), len(rows))
            self.alike(room.ties, degree(clock) - len(rows))
            self.assertIs(room.is_all, len(rows) == degree(clock))
            heads = self.unchanged(room.heads)
            self.is_integers(heads)
            self.assertEqual(heads, sorted(hull(clock, polys)))
            told_clock = self.unchanged(room.clock)
            self.is_told(told_clock)
            self.assertEqual(told_clock, scaled(clock, Ratio(1).over(told(clock)[-1])))

    def test_by_hand(self):
        place, stop = Room([-1, 0, 1], [[0, 0, 1], [0, -1, 0, 1]]), Room([0, 0, 0, 2], [[0, 0, 1]])
        self.assertEqual([place.rows(), place.ties, place.size()], [[ratios(0, 1)], 1, 1])
        self.assertEqual([stop.rows(), stop.heads(), stop.clock()], [told_rows([1, 0, 0], [0, 0, 1]), [0, 2], ratios(0, 0, 0, 1)])
        self.assertIs(Room(polys=[[0, 1]], clock=[0, 0, 0, 1]).is_all, True)
        self.assertIs(Room([7, 1], []).is_all, True)
        self.assertEqual(Room([0, 0, 1], [[5]]).heads(), [0])
        # t t t t is t t, modulo the clock: with t t there is nothing new but it.
        self.assertEqual(Room([0, 0, -1, 0, 1], [[0, 0, 1]]).rows(), told_rows([0, 1, 0, 0], [0, 0, 0, 1]))
        self.assertEqual(Room([1, 0, 1], [[3, HALF]]).rows(), told_rows([1, 0], [0, 1]))

    def test_rest(self):
        source = random.Random(62)
        for clock, polys in SOME:
            room = Room(clock, polys)
            for poly in [[], [3], [0] * 48 + [HALF], [source.randint(-5, 5) for _ in range(49)], list(told(clock))]:
                found = self.unchanged(room.rest, poly)
                self.is_told(found)
                self.assertEqual(found, divided(poly, clock)[1])
        self.assertEqual(Room([0, 0, 0, 2], []).rest(poly=[1, 0, 0, 4]), ratios(1))

    def test_holds(self):
        source = random.Random(63)
        for clock, polys in SOME:
            room, heads = Room(clock, polys), hull(clock, polys)
            for one in [[], [5], *polys, clock, [source.randint(-2, 2) for _ in range(49)]]:
                wanted = lowered(rest(fractions(one), fractions(clock)), heads) == []
                self.assertIs(self.unchanged(room.holds, one), wanted)
            for row in room.rows():
                self.assertIs(room.holds(row[::-1]), True)
            for one in [*polys, [2], clock]:
                for other in polys:
                    if degree(one) + degree(other) <= 48:
                        self.assertIs(room.holds(times(one, other)), True)
                    self.assertIs(room.holds(plus(one, scaled(other, HALF))), True)
            for power in range(degree(clock)):
                if power not in room.heads():
                    low = [source.randint(-2, 2) for _ in range(power)]
                    self.assertIs(room.holds(low + [1]), False)

    def test_equal(self):
        room = Room([0, 0, 0, 2], [[0, 0, 1]])
        for other in [Room([0, 0, 0, 1], [[0, 0, 3]]), Room((0, 0, 0, HALF), ([7, 0, 1, 5],)), Room([0, 0, 0, 5, 0], [[0, 0, 1], [4]])]:
            self.assertTrue(room == other)
            self.assertFalse(room != other)
        for other in [Room([0, 0, 0, 1], []), Room([1, 0, 0, 1], [[0, 0, 1]]), Room([0, 0, 0, 1], [[0, 1]]), Room([0, 0, 1], [])]:
            self.assertFalse(room == other)
            self.assertTrue(room != other)
        for other in NO_ROOM + [room.rows(), room.clock()]:
            self.assertIs(room == other, False)
            self.assertIs(room != other, True)
        self.assertEqual(Room([0, 0, 1], []).rows(), Room([1, 0, 1], []).rows())
        self.assertNotEqual(Room([0, 0, 1], []), Room([1, 0, 1], []))

    def test_repr(self):
        self.assertEqual(repr(Room([-2, 0, 2], [])), "Room([Ratio(-1, 1), Ratio(0, 1), Ratio(1, 1)], [[Ratio(1, 1)]])")
        self.assertEqual(
            repr(Room([0, 0, 0, 1], [[0, HALF, 1]])),
            "Room([Ratio(0, 1), Ratio(0, 1), Ratio(0, 1), Ratio(1, 1)],"
            " [[Ratio(0, 1), Ratio(0, 1), Ratio(1, 1)], [Ratio(0, 1), Ratio(1, 1)], [Ratio(1, 1)]])",
        )

    def test_it_never_changes(self):
        clock, polys = [0, 0, 0, 2], [[0, 0, 1], [1]]
        room = Room(clock, polys)
        clock[0], polys[0][1] = 5, 5
        polys.append([0, 1])
        for found in [room.rows(), room.heads(), room.clock()]:
            found.append(3)
            found[0] = 7
        room.rows()[0][0] = 9
        self.assertEqual(room, Room([0, 0, 0, 1], [[0, 0, 1]]))
        self.assertEqual(room.heads(), [0, 2])

    def test_wrong_values(self):
        for value in NO_CLOCK:
            self.fails(InvalidClock, {"value": value}, Room, value, "later")
            self.fails(InvalidClock, {"value": value}, Room, polys=[], clock=value)
            self.fails(InvalidClock, {"value": value}, is_room, value, [[1]])
            self.fails(InvalidClock, {"value": value}, room_by, value, "later")
            self.fails(InvalidClock, {"value": value}, led_room, Room([0, 1], []), value)
        for value in NO_POLYS:
            self.fails(InvalidPolys, {"value": value}, Room, [0, 1], value)
            self.fails(InvalidPolys, {"value": value}, Room, polys=value, clock=[0, 1])
        room = Room([0, 0, 1], [])
        for value in NO_POLY:
            self.fails(InvalidPoly, {"value": value}, room.holds, value)
            self.fails(InvalidPoly, {"value": value}, room.rest, poly=value)

    def test_sizes_that_are_let(self):
        self.assertIs(Room([0, 1], [[0, 1]] * 12).is_all, True)
        self.assertIs(Room([0] * 20 + [1], ([0, 1],) * 12).is_all, True)
        self.assertEqual(Room([0] * 20 + [1] + [0] * 28, []).ties, 19)


def told_rows(*rows):
    return [ratios(*row) for row in rows]


class IsRoom(Case):

    def test_rows_of_rooms(self):
        source = random.Random(64)
        for clock, polys in SOME + [(clock, some_room(source, clock)[1]) for clock in CLOCKS * 3]:
            room = Room(clock, polys)
            whole = [[one.top if one.is_whole else one for one in row] for row in room.rows()]
            for rows in [room.rows(), tuple(room.rows()), [tuple(row) for row in room.rows()], whole]:
                self.assertIs(is_room(clock, rows), True)
                self.assertEqual(self.unchanged(room_by, clock, rows), room)
            self.assertIs(is_room(value=room.rows(), clock=clock), True)

    def wrong(self, clock, value):
        self.assertIs(is_room(clock, value), False, value)
        self.fails(InvalidRows, {"value": value}, room_by, clock, value)

    def test_one_thing_changed(self):
        for clock, polys in SOME:
            rows = Room(clock, polys).rows()
            wide = degree(clock)
            self.wrong(clock, rows[:-1])
            self.wrong(clock, rows + [rows[-1]])
            self.wrong(clock, [row + [0] for row in rows])
            self.wrong(clock, [rows])
            self.wrong(clock, [[one * 2 for one in rows[0]]] + rows[1:])
            self.wrong(clock, rows[:-1] + [rows[-1][:-1] + [True]])
            self.wrong(clock, rows[:-1] + [[False] + rows[-1][1:]] if wide > 1 else [])
            self.wrong(clock, rows[:-1] + [None])
            self.wrong(clock, rows + [[0] * wide])
            if len(rows) > 1:
                self.wrong(clock, rows[::-1])
                self.wrong(clock, [[one + two for one, two in zip(rows[0], rows[1])]] + rows[1:])
                self.wrong(clock, rows[:1] + [rows[1][1:]] + rows[2:])

    def test_not_closed(self):
        for clock, rows in [
            ([0, 0, 0, 0, 1], [[0, 0, 1, 0], [0, 0, 0, 1]]), ([1, 0, 0, 1], [[1, 0, 0], [0, 0, 1]]),
            ([0, 0, 0, 1], [[0, 1, 0], [0, 0, 1]]), ([0, 0, 1], [[1, 0]]), ([0, 0, 1], [[1, 1]]), ([0, 0, 1], [[1, HALF]]),
            ([-1, 0, 0, 0, 1], [[1, 0, 0, 0], [0, 0, 0, 1]]),
        ]:
            self.wrong(clock, rows)
        self.assertIs(is_room([0, 0, 0, 1], [[1, 0, 0], [0, 0, 1]]), True)
        self.assertIs(is_room([0, 0, 0, 0, 1], [[0, 1, 0, 0], [0, 0, 0, 1]]), True)
        self.assertIs(is_room([0, 0, 0, 0, 1], [[1, 0, 0, 0], [0, 1, HALF, 0], [0, 0, 0, 1]]), False)
        self.assertIs(is_room([0, 0, 0, 0, 1], [[1, 0, 0, 0], [0, 1, 0, 0], [0, 0, 0, 1]]), True)
        self.assertIs(is_room([0, 0, 0, 0, 1], [[1, 0, HALF, 0], [0, 1, 0, 0], [0, 0, 0, 1]]), False)
        self.assertIs(is_room([0, 0, 0, 0, 1], [[0, 1, HALF, 0], [0, 0, 0, 1]]), False)
        self.assertIs(is_room([0, 0, 0, 0, 1], [[1, 0, 5, 0], [0, 1, 3, 0], [0, 0, 0, 1]]), False)
        self.assertIs(is_room([-1, 0, 0, 0, 1], [[1, 0, 1, 0], [0, 0, 0, 1]]), False)

    def test_any_value(self):
        for value in NO_KIND + [5, HALF, [], (), [5], [[]], [[5]], [["0", "1"]], [[0, 1], [1]], [[[0], [1]]], "01"]:
            self.wrong([0, 0, 1], value)
        self.assertIs(is_room([0, 1], [[1]]), True)
        self.assertIs(is_room([0, 1], [[True]]), False)
        self.assertIs(is_room([0, 1], [[1], [1]]), False)


class Together(Case):

    def test_any(self):
        source = random.Random(65)
        for clock in CLOCKS * 4:
            (one, polys), (other, more) = some_room(source, clock), some_room(source, clock)
            both = self.unchanged(sum_room, one, other)
            self.assertEqual(both, Room(clock, polys + more))
            shared = self.unchanged(meet_room, one, other)
            self.assertIs(type(shared), Room)
            self.assertIs(is_room(clock, shared.rows()), True)
            for a, b, wanted in [
                (one, both, True), (shared, other, True), (shared, one, True), (one, one, True), (other, both, True),
                (one, other, sum_room(one, other) == other), (other, one, shared == other),
            ]:
                self.assertIs(self.unchanged(within, a, b), wanted)
            # The heads of what both hold, by as many ties as both have that hang not on one another.
            wide = degree(clock)
            free = kernel(one.rows(), wide) + kernel(other.rows(), wide)
            self.assertEqual(shared.ties, len(steps(free)))

    def test_clocks_told_unlike(self):
        one, other = Room([0, 0, 0, 2], [[0, 0, 1]]), Room((0, 0, 0, HALF), [[0, 1]])
        self.assertIs(within(one, other), True)
        self.assertIs(within(other=one, room=other), False)
        self.assertEqual(sum_room(one, other), other)
        self.assertEqual(meet_room(room=one, other=other), one)
        for third in [Room([0, 0, 1], []), Room([1, 0, 0, 1], []), Room([0, 0, 0, 0, 1], [])]:
            for function in [within, sum_room, meet_room]:
                self.fails(UnlikeClocks, {}, function, one, third)
                self.fails(UnlikeClocks, {}, function, third, one)

    def test_by_hand(self):
        clock = [0, 0, 0, 0, 0, 0, 1]
        two, three = Room(clock, [[0, 0, 1]]), Room(clock, [[0, 0, 0, 1]])
        self.assertEqual(sum_room(two, three).heads(), [0, 2, 3, 4, 5])
        self.assertEqual(meet_room(two, three).heads(), [0])
        self.assertEqual(meet_room(two, Room(clock, [[0, 1]])), two)

    def test_wrong_values(self):
        room = Room([0, 0, 1], [])
        for value in NO_ROOM:
            for function in [within, sum_room, meet_room]:
                self.fails(InvalidRoom, {"value": value}, function, value, "later")
                self.fails(InvalidRoom, {"value": value}, function, room, value)
                self.fails(InvalidRoom, {"value": value}, function, other=value, room=room)
            self.fails(InvalidRoom, {"value": value}, led_room, value, "later")


class Led(Case):

    def test_led(self):
        source = random.Random(66)
        for first in [[0, 0, 1], [-1, 0, 1], [HALF, 1], [1, 1, 1], [0, 0, 0, 5]]:
            for second in [[3], [0, 1], [-2, 0, 1], [1, 2, 1], [0] * 6 + [2]]:
                clock = times(first, second)
                room, polys = some_room(source, clock)
                for number in [1, -3, Ratio(2, 7)]:
                    found = self.unchanged(led_room, room, scaled(first, number))
                    self.assertEqual(found, Room(first, polys))
        room = Room([0, 0, 0, 2], [[0, 0, 1]])
        self.assertEqual(led_room(clock=[0, 0, -4], room=room).heads(), [0])
        self.assertEqual(led_room(room, [0, 0, 0, 1]), room)
        self.assertEqual(led_room(room, [0, 1]).size(), 1)

    def test_not_divided(self):
        room = Room([0, 0, -1, 1], [])
        for clock in [[0, 0, 0, 1], [1, 1], [0, 0, 0, 0, 1], [1, 0, 1], [0, 0, 1, 1], [0] * 20 + [1]]:
            self.fails(NotDivided, {}, led_room, room, clock)
        for clock in [[0, 1], [0, 0, 7], [-1, 1], [0, -1, 1], [0, 0, 1, -1]]:
            self.assertEqual(led_room(room, clock).size(), 1)


class Great(Case):

    def setUp(self):
        self.begun = time.monotonic()

    def tearDown(self):
        self.assertLess(time.monotonic() - self.begun, 20)

    def test_all(self):
        source = random.Random(67)
        clock = six_digits(source, 20)
        room = Room(clock, [six_digits(source, 48) for _ in range(12)])
        self.assertIs(room.is_all, True)
        self.assertIs(room.holds(six_digits(source, 48)), True)
        self.assertIs(is_room(clock, room.rows()), True)
        none = Room(clock, [])
        self.assertIs(none.holds(six_digits(source, 48)), False)
        self.assertIs(none.holds(times(clock, six_digits(source, 28))), True)
        self.assertIs(within(none, room), True)

    def test_of_another_polynomial(self):
        source = random.Random(68)
        for size in (2, 5, 4):
            inner = six_digits(source, size)
            clock = put_in(six_digits(source, 20 // size), inner)
            polys = [put_in(six_digits(source, 20 // size), inner) for _ in range(12)]
            room = Room(clock, polys)
            self.assertEqual(room.heads(), list(range(0, 20, size)))
            self.assertEqual(room, Room(clock, [inner]))
            self.assertLessEqual(max([digits_of(row) for row in room.rows()]), 2000)
            self.assertIs(room.holds(put_in(six_digits(source, 48 // size), inner)), True)
            self.assertIs(room.holds([0, 1]), False)
            self.assertIs(is_room(clock, room.rows()), True)
            self.assertEqual(room_by(clock, room.rows()), room)

    def test_two_times_at_one_place(self):
        source = random.Random(69)
        place = times([-3, 1], [Ratio(5, 7), 1])
        clock = times(place, six_digits(source, 18))
        polys = [plus(times(place, six_digits(source, 18)), [source.randint(1, 9)]) for _ in range(12)]
        room = Room(clock, polys)
        self.assertEqual([room.ties, led_room(room, place).size()], [1, 1])
        self.assertIs(is_room(clock, room.rows()), True)
        self.assertEqual(meet_room(room, Room(clock, [[0, 1]])), room)
        self.assertIs(sum_room(room, Room(clock, [[0, 1]])).is_all, True)


class Primes(Case):

    def test_rests_that_fall_away_modulo_a_prime(self):
        prime = moduli()[0]
        clock, rests = [0, 0, 0, 1], [[0, prime, 1]]
        self.assertEqual(len(hull_products(rests, clock, prime)[0]), 2)
        self.assertEqual(Room(clock, rests).heads(), [0, 1, 2])
        self.assertIsNone(tried_hull([[0, prime, 1]], clock, prime))
        self.assertIsNone(tried_hull([[0, 1]], [1, 0, prime], prime))
        self.assertEqual(Room([1, 0, prime], [[0, 1]]).size(), 2)

    def test_without_a_prime(self):
        great = 1
        for prime in moduli()[:-1]:
            great *= prime
        self.assertEqual(tried_hull([[0, great, 1]], [0, 0, 0, 1], 0).wide, 3)
        clock, poly = [0] * 6 + [1], [0, 0, 1, great]
        found = tried_hull([poly], clock, 0)
        self.assertEqual([5 - place for place in found.places][::-1], sorted(hull(clock, [poly])))
        self.assertEqual(Room(clock, [poly]).rows(), found.steps)


if __name__ == "__main__":
    unittest.main()
