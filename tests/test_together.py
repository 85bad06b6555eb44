"""[81] to [83]: houses joined and met, houses within one another, lone polynomials."""

import random
import time
import unittest

from fromplaces.clocks import house_of
from fromplaces.errors import InvalidHouse, TooMany
from fromplaces.houses import House
from fromplaces.moves import moved, power_house
from fromplaces.parts import common, multiple
from fromplaces.polys import degree, divided, plus, scaled, times
from fromplaces.ratios import Ratio
from fromplaces.rooms import Room
from fromplaces.together import is_lone, is_within, joined, lone, met_house
from oracle import fractions, made_of
from places import ALL, CROSS, CUSP, NO_HOUSE, HALF, of_clock, of_roots, some_houses
from support import NO_POLY, Case, digits_of, ratios, six_digits

LOOP, STOP, EVERY = House(CROSS), House(CUSP), House(ALL)


def pairs():
    """Pairs of houses with like clocks, with clocks of a common part, and others."""
    source = random.Random(720)
    houses = some_houses()
    clocked = [
        House(of_clock(clock)) for clock in
        [[0, 0, 1], [0, 0, 0, 1], [0, 0, -1, 1], [0, -1, 1], [0, 1, -2, 1], [-1, 0, 1], [0, -1, 0, 1], [0, 0, -1, 0, 1], [-1, 1, -1, 1]]
    ] + [power_house(counts) for counts in [[2, 5], [2, 3], [3, 4], [3, 5, 7], [4, 5, 6, 7], [2, 7], [3, 4, 5]]]
    clocked += [House([[0, 0, 1], [0, 0, 0, -1, 0, 1]]), House([[0, 0, 1], [0, 4, 0, -5, 0, 1]]), House([[0, 0, 1], [0, 0, 0, 1, 0, -2, 0, 1]])]
    found = [(one, other) for one in clocked for other in clocked]
    return found + [(source.choice(houses), source.choice(houses)) for _ in range(120)]


def same_house(case, one, other):
    """The houses are alike in all that they tell."""
    case.assertEqual(one, other)
    case.assertEqual([one.gaps(), one.clock(), one.room(), repr(one)], [other.gaps(), other.clock(), other.room(), repr(other)])


class Joined(Case):

    def test_any(self):
        for one, other in pairs():
            found = self.unchanged(joined, one, other)
            self.assertIs(type(found), House)
            same_house(self, joined(other, one), found)
            for poly in one.base() + other.base():
                self.assertIs(found.holds(poly), True)
            self.assertLessEqual(set(found.gaps()), set(one.gaps()) & set(other.gaps()))
            self.assertIs(is_within(one, found) and is_within(other, found), True)

    def test_by_closing_up(self):
        for one, other in random.Random(724).sample(pairs(), 40):
            found = joined(one, other)
            made = made_of(one.base() + other.base(), 42)
            self.assertEqual([n for n in range(21) if n not in made], found.gaps())
            for poly in found.base():
                self.assertEqual(fractions(poly), made[degree(poly)])

    def test_by_hand(self):
        self.assertEqual([joined(LOOP, STOP), joined(other=LOOP, house=STOP)], [EVERY, EVERY])
        self.assertEqual(joined(House([[0, 0, 1], [0, 0, 0, -1, 0, 1]]), LOOP), LOOP)
        self.assertEqual(joined(power_house([4, 6, 7]), power_house([3, 7, 4])).gaps(), [1, 2, 5])
        self.assertEqual(joined(power_house([3, 4]), power_house([3, 5, 7])), power_house([3, 4, 5]))

    def test_itself_and_all(self):
        for house in some_houses():
            same_house(self, joined(house, house), house)
            for found in [joined(house, EVERY), joined(EVERY, house)]:
                same_house(self, found, EVERY)


class Met(Case):

    def test_any(self):
        source = random.Random(721)
        for one, other in pairs():
            clock = multiple(one.clock(), other.clock())
            try:
                found = self.unchanged(met_house, one, other)
            except TooMany as error:
                self.assertEqual([error.what, error.limit], ["gaps", 10])
                self.fails(TooMany, {"what": "gaps", "limit": 10}, met_house, other, one)
                self.assertGreater(gaps_by_hand(one, other), 10)
                continue
            self.assertIs(type(found), House)
            same_house(self, met_house(other, one), found)
            self.assertEqual([found.clock(), found.gap_count], [clock, gaps_by_hand(one, other)])
            self.assertLessEqual(found.gap_count, one.gap_count + other.gap_count)
            self.assertLessEqual(set(one.gaps()) | set(other.gaps()), set(found.gaps()))
            if common(one.clock(), other.clock()) == ratios(1):
                self.assertEqual(found.gap_count, one.gap_count + other.gap_count)
            for poly in found.base():
                self.assertIs(one.holds(poly) and other.holds(poly), True)
            for _ in range(4):
                poly = [source.randint(-2, 2) for _ in range(source.randint(1, 30))]
                self.assertIs(found.holds(poly), one.holds(poly) and other.holds(poly))
                poly = plus(poly, scaled(one.left(poly), -1))
                self.assertIs(found.holds(poly), other.holds(poly))
            # The same house from its own makers, where they are such.
            if len(found.base()) <= 4 and degree(found.base()[-1]) <= 7:
                same_house(self, House(found.base()), found)

    def test_by_hand(self):
        found = met_house(LOOP, STOP)
        self.assertEqual([found.gaps(), found.base()], [[1, 3], [ratios(0, 0, 1), ratios(0, 0, 0, -1, 0, 1)]])
        self.assertEqual(found.clock(), ratios(0, 0, -1, 0, 1))
        self.assertEqual(met_house(other=LOOP, house=STOP), found)
        self.assertEqual(met_house(power_house([2, 5]), power_house([3, 4])).gaps(), [1, 2, 3, 5])

    def test_itself_and_all(self):
        for house in some_houses():
            same_house(self, met_house(house, house), house)
            for found in [met_house(house, EVERY), met_house(EVERY, house)]:
                same_house(self, found, house)

    def test_ten_gaps(self):
        five, six = spread(of_roots(1, 6)), spread([0] * 6 + [1])
        self.assertEqual([five.gap_count, six.gap_count], [5, 5])
        found = met_house(five, six)
        self.assertEqual([found.gap_count, degree(found.clock())], [10, 12])
        great = power_house([5, 6])
        self.assertEqual(met_house(great, great), great)
        # A house of t t and the 21: its clock is t to the 20, as that of t to the 5 and the 6.
        narrow = house_of(Room([0] * 20 + [1], [[0, 0, 1]]))
        self.assertEqual(narrow.gap_count, 10)
        self.assertEqual(met_house(narrow, narrow), narrow)
        for one, other in [
            (five, spread(of_roots(7, 13))), (spread(of_roots(1, 7)), six), (great, LOOP), (great, moved(great, 1, 1)), (narrow, great),
            (narrow, moved(narrow, 1, 3)), (spread(of_roots(1, 11)), spread(of_roots(11, 12))),
        ]:
            self.assertGreater(gaps_by_hand(one, other), 10)
            self.fails(TooMany, {"what": "gaps", "limit": 10}, met_house, one, other)
            self.fails(TooMany, {"what": "gaps", "limit": 10}, met_house, other, one)

    def test_eleven_gaps(self):
        for last, wanted in [(11, 10), (12, 11)]:
            one, other = spread(of_roots(1, 7)), spread(of_roots(7, last))
            self.assertEqual([one.gap_count, other.gap_count, gaps_by_hand(one, other)], [6, last - 7, wanted])
            if wanted == 10:
                self.assertEqual(met_house(one, other).gap_count, 10)
            else:
                self.fails(TooMany, {"what": "gaps", "limit": 10}, met_house, one, other)


def spread(clock):
    """The house of all polynomials of one worth at all roots of the clock."""
    return house_of(Room(clock, []))


def gaps_by_hand(one, other):
    """How many powers nothing has that both hold: as many as ties, those of sums counted once."""
    rows = []
    wide = degree(one.clock()) + degree(other.clock())
    for power in range(wide):
        row = []
        for house in (one, other):
            left = house.left([0] * power + [1])
            row += [left[gap] if gap < len(left) else Ratio(0) for gap in house.gaps()]
        rows.append(fractions_row(row))
    return rank(rows)


def fractions_row(row):
    return [(fractions([number]) or [0])[0] for number in row]


def rank(rows):
    heads = {}
    for row in rows:
        left = list(row)
        for at, number in enumerate(left):
            if left[at] != 0 and at in heads:
                part = left[at] / heads[at][at]
                left = [a - part * b for a, b in zip(left, heads[at])]
            elif left[at] != 0:
                heads[at] = left
                break
    return len(heads)


class Within(Case):

    def test_any(self):
        for one, other in pairs():
            wanted = all([other.holds(poly) for poly in one.base()])
            self.assertIs(self.unchanged(is_within, one, other), wanted)
            self.assertIs(joined(one, other) == other, wanted)
            if wanted:
                self.assertEqual(met_house(one, other), one)
            found = self.unchanged(lone, one, other)
            self.assertIs(found is None, wanted)
            if wanted:
                continue
            self.is_told(found)
            self.assertLessEqual(degree(found), 24)
            self.assertLessEqual(digits_of(found), 2000)
            self.assertIs(one.holds(found), True)
            self.assertIs(other.holds(found), False)
            self.assertIs(self.unchanged(is_lone, one, other, found), True)
            self.assertIs(is_lone(other, one, found), False)

    def test_by_hand(self):
        both = met_house(LOOP, STOP)
        for one, other, wanted in [
            (LOOP, STOP, False), (STOP, LOOP, False), (both, LOOP, True), (both, STOP, True), (LOOP, both, False), (LOOP, EVERY, True),
            (EVERY, LOOP, False), (LOOP, LOOP, True), (LOOP, House([[3, 0, 2], [1, -1, 0, 1]]), True), (EVERY, EVERY, True),
        ]:
            self.assertIs(is_within(one, other), wanted)
            self.assertIs(is_within(other=other, house=one), wanted)
            self.assertIs(lone(other=other, house=one) is None, wanted)
        for house in some_houses():
            self.assertIs(is_within(house, house), True)
            self.assertIsNone(lone(house, house))

    def test_greatest_degree(self):
        # t t and t to the 21 are the full base.
        narrow = house_of(Room([0] * 20 + [1], [[0, 0, 1]]))
        found = lone(narrow, house_of(Room([0, 0, -1, 0, 1], [[0, 0, 1]])))
        self.assertIs(is_lone(narrow, house_of(Room([0, 0, -1, 0, 1], [[0, 0, 1]])), found), True)
        deep = house_of(Room([-1, 1, 0, 0, 0, 1], []))
        for one, other in [(narrow, deep), (deep, narrow), (power_house([5, 6]), narrow), (narrow, power_house([5, 6]))]:
            self.assertIs(is_lone(one, other, lone(one, other)), True)
        self.assertIsNone(lone(narrow, power_house([2, 3])))
        self.assertEqual(lone(moved(narrow, 1, 0), power_house([2, 3])), None)


class Lone(Case):

    def test_any_value(self):
        for value in [[0, -1, 0, 1], (0, -1, 0, 1, 0), [5, Ratio(-1), 7, 1], [0, -1, 0, 1] + [0] * 45, [0, 1, 0, -1]]:
            self.assertIs(is_lone(LOOP, STOP, value), True, value)
            self.assertIs(is_lone(value=value, other=STOP, house=LOOP), True)
        held = [[], [0], [5], (0, 0, 0), [0, 0, 1], [1, 0, HALF], [0, 0, -1, 0, 1]]
        for value in NO_POLY + held + [[0, 1], [0, 0, 0, 1], [[0, -1, 0, 1]], {0: 1}, LOOP, [0, True, 0, -1], [False, -1, 0, 1], "0,-1,0,1"]:
            self.assertIs(is_lone(LOOP, STOP, value), False, value)

    def test_degrees(self):
        # t to the 23 - t is held by the one; of the degree 25 there are such, too, but none is lone.
        for power in (3, 23):
            self.assertIs(is_lone(LOOP, STOP, [0, -1] + [0] * (power - 2) + [1]), True)
        self.assertIs(is_lone(LOOP, STOP, [0, -1] + [0] * 21 + [1, 1]), True)
        self.assertIs(is_lone(LOOP, STOP, [0, -1] + [0] * 21 + [1, 1] + [0] * 24), True)
        for numbers in [[0, -1] + [0] * 23 + [1], [0, -1] + [0] * 21 + [1, 0, 0, 1], [0, -1, 0, 1] + [0] * 44 + [1]]:
            self.assertIs(LOOP.holds(numbers) and not STOP.holds(numbers), True)
            self.assertIs(is_lone(LOOP, STOP, numbers), False)

    def test_within(self):
        for value in [[0, 1], [0, -1, 0, 1], [0, 0, 1], []]:
            self.assertIs(is_lone(LOOP, EVERY, value), False)
            self.assertIs(is_lone(LOOP, LOOP, value), False)


class Great(Case):

    def test_great_fractions(self):
        source = random.Random(722)
        begun = time.monotonic()
        houses = [House([six_digits(source, size) for size in sizes]) for sizes in [(5, 6), (4, 6), (2, 7), (3, 4)]]
        houses += [moved(one, Ratio(123457, 999983), Ratio(-765433, 999979)) for one in houses]
        for one in houses:
            for other in houses:
                if one != other:
                    self.assertEqual(joined(one, other), EVERY)
                    total = one.gap_count + other.gap_count
                    if total > 10:
                        self.fails(TooMany, {"what": "gaps", "limit": 10}, met_house, one, other)
                    else:
                        self.assertEqual(met_house(one, other).gap_count, total)
                    self.assertIs(is_lone(one, other, lone(one, other)), True)
                else:
                    self.assertEqual([joined(one, other), met_house(one, other), lone(one, other)], [one, one, None])
        self.assertLess(time.monotonic() - begun, 60)

    def test_great_clocks_with_a_common_part(self):
        source = random.Random(723)
        begun = time.monotonic()
        roots = [six_digits(source, 0)[0] for _ in range(7)]
        clocks = [ratios(1), ratios(1)]
        for root in roots[:5]:
            clocks[0] = times(clocks[0], [root, 1])
        for root in roots[2:]:
            clocks[1] = times(clocks[1], [root, 1])
        one, other = [house_of(Room(clock, [])) for clock in clocks]
        self.assertEqual([one.clock(), other.clock()], clocks)
        self.assertEqual([one.gap_count, other.gap_count, joined(one, other).gap_count, met_house(one, other).gap_count], [4, 4, 2, 6])
        self.assertEqual(divided(met_house(one, other).clock(), clocks[0])[1], [])
        far = [moved(moved(house, Ratio(999999, 999983), Ratio(-1, 999979)), 3, 777777) for house in (one, other)]
        self.assertEqual([joined(*far).gap_count, met_house(*far).gap_count], [2, 6])
        self.assertEqual(joined(*far), moved(moved(joined(one, other), Ratio(999999, 999983), Ratio(-1, 999979)), 3, 777777))
        self.assertLess(time.monotonic() - begun, 30)


class Errors(Case):

    def test_houses(self):
        for value in NO_HOUSE:
            for function, more in [(joined, {}), (met_house, {}), (is_within, {}), (lone, {}), (is_lone, {"value": None})]:
                rest = list(more.values())
                self.fails(InvalidHouse, {"value": value}, function, value, None, *rest)
                self.fails(InvalidHouse, {"value": value}, function, LOOP, value, *rest)
                self.fails(InvalidHouse, {"value": value}, function, other=None, house=value, **more)
                self.fails(InvalidHouse, {"value": value}, function, other=value, house=EVERY, **more)


if __name__ == "__main__":
    unittest.main()
