"""[76], [77]: stops, weights, the times of the clock that are fractions, and crossings."""

import random
import time
import unittest

from fromplaces.clocks import house_of
from fromplaces.errors import InvalidHouse
from fromplaces.houses import House
from fromplaces.moves import moved
from fromplaces.parts import common
from fromplaces.polys import degree, derived, plus, times, worth
from fromplaces.ratios import Ratio
from fromplaces.rooms import Room
from fromplaces.roots import fitting_prime, fraction_roots, is_prime
from fromplaces.stops import clock_times, crossings, is_stop, stop_part, weight
from fromplaces.times import is_plain_time, same_place
from fromplaces.wholes import primitive
from oracle import fractions, rest
from places import (
    ALL, CROSS, CUSP, HALF, NO_HOUSE, NUMBERS, check_house_first, check_numbers, greatest_common, less_worth, of_clock,
    powers_of, slopes, some_houses, worth_at,
)
from support import Case, ratio, ratios, six_digits


def numbers_for(house):
    return NUMBERS + [one for one, _ in clock_times(house)]


class Stops(Case):

    def test_by_hand(self):
        for makers, wanted in [
            (CUSP, [0, 1]), (CROSS, [1]), (ALL, [1]), ([[0, 0, 1], [0, 1, 1]], [1]), ([[0, 0, 0, 1], [0] * 4 + [1]], [0, 0, 1]),
            ([[0, 0, 0, 1], [0] * 4 + [1], [0] * 5 + [1]], [0, 0, 1]), ([[0, 0, 1], [0, 0, 0, -2, 0, 1]], [0, 1]),
            ([[0, -3, 0, 1], [0, 0, 0, 0, 1]], [1]), ([[0, 0, -2, 0, 1], [0, 0, 0, -1, 0, 1]], [0, 1]),
            # Stops at the roots of t t + 1 and of t t - 2, which are no fractions.
            (of_clock([1, 0, 2, 0, 1]), [1, 0, 1]), (of_clock([4, 0, -4, 0, 1]), [-2, 0, 1]), (of_clock([0, 0, -1, 1]), [0, 1]),
        ]:
            self.assertEqual(self.unchanged(stop_part, House(makers)), ratios(*wanted))
            self.assertEqual(stop_part(house=House(makers)), ratios(*wanted))

    def test_any(self):
        for house in some_houses():
            found = self.unchanged(stop_part, house)
            self.is_told(found)
            self.assertEqual(fractions(found), greatest_common([slopes(one) for one in house.base()]))
            shared = []
            for one in house.base():
                shared = common(shared, derived(one))
            self.assertEqual(found, shared)
            for number in numbers_for(house):
                wanted = all([worth_at(derived(one), number) == 0 for one in house.base()])
                self.assertIs(self.unchanged(is_stop, house, number), wanted)
                self.assertIs(worth(found, number).sign == 0, wanted)
                if wanted:
                    self.assertIs(is_plain_time(house, number), False)
            if house.gap_count == 0:
                self.assertEqual(found, ratios(1))
        self.assertIs(is_stop(number=Ratio(0), house=House(CUSP)), True)

    def test_weights(self):
        for house in some_houses():
            for number in numbers_for(house):
                found = self.unchanged(weight, house, number)
                self.assertIs(type(found), int)
                self.assertGreaterEqual(found, 1)
                self.assertIs(found >= 2, is_stop(house, number))
                lows = [less_worth(one, number) for one in house.base()]
                line = [number * Ratio(-1), 1]
                wanted = min([max([k for k in range(len(low)) if rest(low, powers_of(line, k)) == []]) for low in lows])
                self.assertEqual(found, wanted)
        for makers, number, wanted in [
            (CUSP, 0, 2), (CUSP, 1, 1), (CROSS, 1, 1), (ALL, 7, 1), ([[0, 0, 0, 1], [0] * 4 + [1]], 0, 3),
            ([[0] * 5 + [1], [0] * 6 + [1]], Ratio(0), 5), (of_clock([-8, 12, -6, 1]), 2, 3), (of_clock([0, 0, -1, 1]), 1, 1),
        ]:
            self.alike(weight(House(makers), number), wanted)
            self.alike(weight(number=number, house=House(makers)), wanted)


class ClockTimes(Case):

    def test_by_hand(self):
        for makers, wanted in [
            (CROSS, [(-1, 1), (1, 1)]), (CUSP, [(0, 2)]), (ALL, []), (of_clock([-2, 0, 1]), []), (of_clock([1, 0, 1]), []),
            (of_clock([0, -2, 0, 1]), [(0, 1)]), (of_clock(times([HALF, 1], [-3, 0, 1])), [("-1/2", 1)]),
            (of_clock([4, -12, 13, -6, 1]), [(1, 2), (2, 2)]), (of_clock([0, 0, -1, 1]), [(0, 2), (1, 1)]),
            ([[0] * 5 + [1], [0] * 6 + [1]], [(0, 20)]), ([[0, 0, 1], [0, 4, 0, -5, 0, 1]], [(-2, 1), (-1, 1), (1, 1), (2, 1)]),
            (of_clock([Ratio(-6, 35), Ratio(-1, 35), 1]), [("-2/5", 1), ("3/7", 1)]), (of_clock([0, Ratio(1, 3), 1]), [("-1/3", 1), (0, 1)]),
            (of_clock([Ratio(1, 6), Ratio(5, 6), 1]), [("-1/2", 1), ("-1/3", 1)]), ([[0, 0, 1], [0, 1, 0, 2, 0, 1]], []),
        ]:
            found = self.unchanged(clock_times, House(makers))
            self.assertEqual(found, [(ratio(one), often) for one, often in wanted])
            self.assertEqual(clock_times(house=House(makers)), found)

    def test_any(self):
        for house in some_houses():
            clock = fractions(house.clock())
            found = self.unchanged(clock_times, house)
            self.assertIs(type(found), list)
            for one in found:
                self.assertEqual([type(part) for part in (one, *one)], [tuple, Ratio, int])
                line = [one[0] * -1, 1]
                self.assertEqual(rest(clock, powers_of(line, one[1])), [])
                self.assertNotEqual(rest(clock, powers_of(line, one[1] + 1)), [])
            for (one, _), (other, _) in zip(found, found[1:]):
                self.assertIs(one.is_below(other), True)
            # By own reckoning: all fractions with small parts that are roots are among them.
            likely = {(top, bottom) for top in range(-12, 13) for bottom in range(1, 8)}
            for top, bottom in likely:
                if worth_at(house.clock(), Ratio(top, bottom)) == 0:
                    self.assertIn(Ratio(top, bottom), [one for one, _ in found])

    def test_roots_of_any_polynomial(self):
        source = random.Random(710)
        for _ in range(60):
            wholes, wanted = [source.choice([1, -3, 7])], {}
            for _ in range(source.randint(0, 7)):
                top, bottom = source.choice([(0, 1), (1, 2), (-5, 3), (23, 1), (46, 29), (999983, 999979), (-1, 999999), (10 ** 30, 7)])
                wanted[top, bottom] = wanted.get((top, bottom), 0) + 1
                wholes = [a * bottom - b * top for a, b in zip([0, *wholes], [*wholes, 0])]
            for factor in [[1, 0, 1], [-2, 0, 1], [5, 1, 0, 23]][:source.randint(0, 3)]:
                wholes = [int(one.top) for one in times(wholes, factor)]
            found = fraction_roots(primitive(wholes))
            self.assertEqual({(top, bottom): often for top, bottom, often in found}, wanted)
            self.assertEqual(len(found), len(wanted))

    def test_roots_that_the_powers_of_the_prime_just_tell(self):
        for top, bottom in [(250007, 249999), (-250007, 249998), (3, 250007), (250007, 1), (279839, 279841 - 529), (11, 12), (374, 373), (-529, 1)]:
            self.assertEqual(fraction_roots([-top, bottom]), [(top, bottom, 1)])
            self.assertEqual(sorted(fraction_roots([-top * 0, -top, bottom])), sorted([(0, 1, 1), (top, bottom, 1)]))

    def test_primes(self):
        self.assertEqual([n for n in range(2, 60) if is_prime(n)], [2, 3, 5, 7, 11, 13, 17, 19, 23, 29, 31, 37, 41, 43, 47, 53, 59])
        self.assertEqual([fitting_prime([0, 1]), fitting_prime([-23, 0, 1]), fitting_prime([1, 23 * 29]), fitting_prime([0, 23, 1])], [23, 29, 31, 29])

    def test_roots_of_one_rest_modulo_small_primes(self):
        clock = ratios(1)
        for root in range(9):
            clock = times(clock, [-root * 23 * 29 * 31, 1])
        house = house_of(Room(clock, []))
        self.assertEqual(clock_times(house), [(Ratio(root * 23 * 29 * 31), 1) for root in range(9)])
        self.assertEqual(crossings(house), [[Ratio(root * 23 * 29 * 31) for root in range(9)]])
        clock = ratios(1)
        for root in range(20):
            clock = times(clock, [-root * 23, 1])
        wholes = [one.top for one in clock]
        self.assertEqual(sorted(fraction_roots(wholes)), [(root * 23, 1, 1) for root in range(20)])


class Crossings(Case):

    def test_by_hand(self):
        two = [[0, 0, 1], [0, 4, 0, -5, 0, 1]]
        for makers, wanted in [
            (CROSS, [[-1, 1]]), (CUSP, []), (ALL, []), (two, [[-2, 2], [-1, 1]]), (of_clock([0, -1, 0, 1]), [[-1, 0, 1]]),
            (of_clock([0, 0, -1, 1]), [[0, 1]]), (of_clock([-2, 0, 1]), []), (of_clock([4, -12, 13, -6, 1]), [[1, 2]]),
            # At the place of a fraction are times that are no fractions alone.
            (of_clock(times([HALF, 1], [-3, 0, 1])), []), (of_clock([0, 1, 0, 1]), []), (of_clock([0, -3, -2, 1]), [[-1, 0, 3]]),
            (of_clock([Ratio(-6, 35), Ratio(-1, 35), 1]), [["-2/5", "3/7"]]), ([[0, 0, 1], [0, 0, 0, -2, 0, 1]], []),
        ]:
            found = self.unchanged(crossings, House(makers))
            self.assertEqual(found, [ratios(*some) for some in wanted])
            self.assertEqual(crossings(house=House(makers)), found)

    def test_any(self):
        for house in some_houses():
            found = self.unchanged(crossings, house)
            times_of_clock = [one for one, _ in clock_times(house)]
            inside = [one for some in found for one in some]
            for some in found:
                self.assertIs(type(some), list)
                self.assertGreaterEqual(len(some), 2)
                self.assertEqual(some, [one for one in times_of_clock if same_place(house, one, some[0])])
            for one, other in zip(found, found[1:]):
                self.assertIs(one[0].is_below(other[0]), True)
            for one in times_of_clock:
                alone = not any([same_place(house, one, other) for other in times_of_clock if other != one])
                self.assertIs(one in inside, not alone)

    def test_two_by_two(self):
        crossed = House([[0, 0, 1], [0, 36, 0, -13, 0, 1]])
        self.assertEqual(crossings(crossed), [ratios(-3, 3), ratios(-2, 2)])
        self.assertEqual(crossings(moved(crossed, Ratio(-1, 2), 5)), [ratios(4, 16), ratios(6, 14)])


class Great(Case):

    def test_great_fractions(self):
        source = random.Random(711)
        begun = time.monotonic()
        for sizes in [(5, 6), (4, 7), (4, 6), (2, 7)]:
            house = House([six_digits(source, size) for size in sizes])
            house = moved(moved(house, Ratio(123457, 999983), Ratio(765433, 999979)), -7, HALF)
            self.assertEqual([clock_times(house), crossings(house), stop_part(house)], [[], [], ratios(1)])
            self.assertEqual([weight(house, 999999), is_stop(house, Ratio(1, 999999))], [1, False])
        roots = sorted_ratios([Ratio(999983, 123457), Ratio(-654321, 999979), Ratio(1, 999999), Ratio(-999999, 7)])
        clock = ratios(1)
        for root in roots:
            clock = times(clock, [-root, 1])
        house = House([plus(times(clock, six_digits(source, 3)), [number]) for number in (5, 6, HALF, 0)])
        self.assertEqual(degree(house.clock()), 4)
        self.assertEqual([clock_times(house), crossings(house)], [[(root, 1) for root in roots], [roots]])
        far = moved(moved(house, Ratio(999999, 999983), Ratio(-1, 999979)), 3, 777777)
        self.assertEqual(len(clock_times(far)), 4)
        self.assertEqual([len(some) for some in crossings(far)], [4])
        back = moved(moved(far, Ratio(1, 3), Ratio(-777777, 3)), Ratio(999983, 999999), Ratio(1, 999979) * Ratio(999983, 999999))
        self.assertEqual([back, crossings(back)], [house, [roots]])
        self.assertLess(time.monotonic() - begun, 30)


def sorted_ratios(numbers):
    return sorted(numbers, key=lambda one: fractions([one])[0])


class Errors(Case):

    def test_houses(self):
        for value in NO_HOUSE:
            for function in [stop_part, clock_times, crossings]:
                self.fails(InvalidHouse, {"value": value}, function, value)
                self.fails(InvalidHouse, {"value": value}, function, house=value)
        for function in [is_stop, weight]:
            check_house_first(self, function, None, number=None)

    def test_numbers(self):
        for function in [is_stop, weight]:
            check_numbers(self, function, House(CROSS), house=House(ALL), number=None)


if __name__ == "__main__":
    unittest.main()
