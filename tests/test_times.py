"""[71] to [75]: times at one place, plain times, bundles and their gaps, parted houses."""

import random
import time
import unittest

from fromplaces.errors import InvalidHouse, InvalidNumber, InvalidPoly
from fromplaces.houses import House
from fromplaces.moves import moved
from fromplaces.parts import common, part_with
from fromplaces.polys import degree, divided, plus, scaled, times, told, worth
from fromplaces.ratios import Ratio
from fromplaces.rooms import Room
from fromplaces.stops import clock_times
from fromplaces.times import bundle, bundle_gaps, is_parted, is_plain_time, same_place, times_at
from oracle import fractions, product, rest
from places import (
    ALL, CROSS, CUSP, HALF, NO_HOUSE, NUMBERS, check_house_first, check_numbers, greatest_common, less_worth, of_clock,
    some_houses, worth_at,
)
from support import NO_NUMBER, NO_POLY, Case, ratios, six_digits


def numbers_for(house):
    """Numbers, the roots of the clock that are fractions among them."""
    return NUMBERS + [one for one, _ in clock_times(house)]


class Places(Case):

    def test_by_hand(self):
        three = House(of_clock([0, -1, 0, 1]))
        touch = House([[0, 0, 0, 1], [0] * 4 + [1]])
        for house, number, wanted in [
            (House(CROSS), 1, [-1, 0, 1]), (House(CROSS), -1, [-1, 0, 1]), (House(CROSS), 0, [0, 1]), (House(CROSS), HALF, [-HALF, 1]),
            (House(CUSP), 0, [0, 0, 1]), (House(CUSP), 3, [-3, 1]), (House(ALL), Ratio(5, 7), [Ratio(-5, 7), 1]),
            (three, 0, [0, -1, 0, 1]), (three, 1, [0, -1, 0, 1]), (three, -1, [0, -1, 0, 1]), (three, 2, [-2, 1]), (touch, 0, [0, 0, 0, 1]),
            # The other time is no fraction, or not real, but at a place of a fraction.
            (House(of_clock(times([HALF, 1], [-3, 0, 1]))), -HALF, times([HALF, 1], [-3, 0, 1])),
            (House(of_clock([0, 1, 0, 1])), 0, [0, 1, 0, 1]), (House(of_clock([-2, 0, 1])), 1, [-1, 1]),
            (House(of_clock([Ratio(-6, 35), Ratio(-1, 35), 1])), Ratio(3, 7), [Ratio(-6, 35), Ratio(-1, 35), 1]),
        ]:
            self.assertEqual(self.unchanged(times_at, house, number), ratios(*wanted))
            self.assertEqual(times_at(number=Ratio(1) * number, house=house), ratios(*wanted))

    def test_any(self):
        for house in some_houses():
            for number in numbers_for(house):
                found = self.unchanged(times_at, house, number)
                self.is_told(found)
                self.assertEqual(found[-1], Ratio(1))
                self.assertEqual(worth(found, number), Ratio(0))
                # By own reckoning: the greatest polynomial that divides the base, less its worths there.
                lows = [less_worth(one, number) for one in house.base()]
                for low in lows:
                    self.assertEqual(rest(low, fractions(found)), [])
                self.assertEqual(greatest_common(lows), fractions(found))

    def test_same_place(self):
        for house in some_houses():
            numbers = numbers_for(house)
            for number in numbers:
                self.assertIs(self.unchanged(same_place, house, number, number), True)
                for other in numbers:
                    wanted = all([worth_at(one, number) == worth_at(one, other) for one in house.base()])
                    self.assertIs(same_place(house, number, other), wanted)
                    self.assertIs(wanted, worth(times_at(house, number), other).sign == 0)
        self.assertIs(same_place(House(CROSS), 1, Ratio(-1)), True)
        self.assertIs(same_place(other=-1, number=1, house=House(CROSS)), True)
        self.assertIs(same_place(House(CROSS), 0, 1), False)
        self.assertIs(same_place(House(CUSP), 1, -1), False)

    def test_plain_times(self):
        for house in some_houses():
            for number in numbers_for(house):
                found = self.unchanged(is_plain_time, house, number)
                self.assertIs(found, worth_at(house.clock(), number) != 0)
                self.assertIs(found, times_at(house, number) == plus([0, 1], [number * Ratio(-1)]))
                if house.gap_count == 0:
                    self.assertIs(found, True)
        self.assertIs(is_plain_time(number=0, house=House(CUSP)), False)
        self.assertIs(is_plain_time(House(CROSS), Ratio(1)), False)


class Bundles(Case):

    def test_by_hand(self):
        crossed = House([[0, 0, 1], [0, 4, 0, -5, 0, 1]])
        tacked = House([[0, 0, 1], [0, 0, 0, -2, 0, 1]])
        for house, number, wanted, missing in [
            (House(CROSS), 1, [-1, 0, 1], 1), (House(CUSP), 0, [0, 0, 1], 1), (House(CUSP), 1, [1], 0), (House(ALL), 0, [1], 0),
            (crossed, 1, [-1, 0, 1], 1), (crossed, -2, [-4, 0, 1], 1), (crossed, 0, [1], 0), (tacked, 0, [0, 0, 1], 1), (tacked, 1, [1], 0),
            (House([[0, 0, 0, 1], [0] * 4 + [1]]), 0, [0] * 6 + [1], 3), (House(of_clock([0, 0, -1, 1])), 1, [0, 0, -1, 1], 2),
            (House([[0, 0, 1], [0, 1, 0, 2, 0, 1]]), 0, [1], 0),
        ]:
            self.assertEqual(self.unchanged(bundle, house, number), ratios(*wanted))
            self.alike(self.unchanged(bundle_gaps, house, number), missing)
            self.assertEqual(bundle(number=number, house=house), ratios(*wanted))
            self.alike(bundle_gaps(number=number, house=house), missing)

    def test_any(self):
        for house in some_houses():
            clock, numbers, unlike = house.clock(), numbers_for(house), []
            for number in numbers:
                found = self.unchanged(bundle, house, number)
                self.is_told(found)
                self.assertEqual(found[-1], Ratio(1))
                other, left = divided(clock, found)
                self.assertEqual([left, common(found, other)], [[], ratios(1)])
                self.assertIs(found == ratios(1), is_plain_time(house, number))
                self.assertEqual(found, part_with(clock, times_at(house, number)))
                # Each of its roots is one of the times there, unseen ones too.
                self.assertEqual(part_with(found, times_at(house, number)), found)
                missing = self.unchanged(bundle_gaps, house, number)
                self.assertEqual(missing, Room(found, house.base()).ties if degree(found) > 0 else 0)
                self.assertIs(type(missing), int)
                self.assertIs(missing >= 1, degree(found) > 0)
                for one, other_bundle, _ in unlike:
                    if same_place(house, number, one):
                        self.assertEqual(found, other_bundle)
                    else:
                        self.assertEqual(common(found, other_bundle), ratios(1))
                if not any([same_place(house, number, one) for one, _, _ in unlike]):
                    unlike.append((number, found, missing))
            together = ratios(1)
            for _, one, _ in unlike:
                together = times(together, one)
            total = sum([missing for _, _, missing in unlike])
            self.assertLessEqual(total, house.gap_count)
            self.assertIs(total == house.gap_count, together == clock)

    def test_unseen_bundles(self):
        house = House([[0, 0, 1], [0, 2, 0, -3, 0, 1]])
        self.assertEqual(house.clock(), ratios(2, 0, -3, 0, 1))
        self.assertEqual([bundle(house, 1), house.gap_count, bundle_gaps(house, 1)], [ratios(-1, 0, 1), 2, 1])
        self.assertIs(is_parted(house, [-1, 0, 1]), True)
        self.assertIs(is_parted(house, [-2, 0, 1]), True)


class Parted(Case):

    def test_by_hand(self):
        cross, two = House(CROSS), House([[0, 0, 1], [0, 4, 0, -5, 0, 1]])
        for house, first, wanted in [
            (cross, [-1, 0, 1], True), (cross, [-1, 1], False), (cross, [1, 1], False), (cross, [3], True), (cross, [HALF, 0], True),
            (cross, [], False), (cross, [0, 0], False), (cross, [0, 1], False), (cross, [0, -1, 0, 1], False), (cross, [5, 0, -5], True),
            (cross, [1, 0, -2, 0, 1], False), (cross, [-1, 0, 1] + [0] * 46, True), (cross, [-1] + [0] * 47 + [1], False),
            (House(CUSP), [0, 1], False), (House(CUSP), [0, 0, 1], True), (House(CUSP), (0, 0, -7), True), (House(CUSP), [4], True),
            (House(CUSP), [0, 0, 0, 1], False), (two, [-1, 0, 1], True), (two, [-4, 0, 1], True), (two, [2, -3, 1], False),
            (two, [4, 0, -5, 0, 1], True), (two, [-1, 1], False), (two, [4, -4, -1, 1], False), (two, scaled([-4, 0, 1], HALF), True),
            (House(ALL), [1], True), (House(ALL), [-3], True), (House(ALL), [], False), (House(ALL), [0, 1], False), (House(ALL), [2, 0, 0], True),
        ]:
            self.assertIs(self.unchanged(is_parted, house, first), wanted, first)
            self.assertIs(is_parted(first=first, house=house), wanted)

    def test_what_does_not_divide_the_clock(self):
        for house in some_houses():
            for first in [[-2, 1], [Ratio(-17, 3), 1], [1, 0, 0, 1], [5, 1, 1], [7, 0, 0, 0, 2]]:
                if divided(house.clock(), first)[1]:
                    self.assertIs(is_parted(house, first), False)
            for number in (Ratio(101), Ratio(-7, 5)):
                more = times(bundle(house, 0), [number, 1])
                self.assertIs(is_parted(house, more), False)

    def test_a_common_part_with_the_quotient(self):
        # Modulo t to the 4 there are two ties, modulo t t one: as many as the house's gaps, but they are not parted.
        house = House([[0, 0, 0, 1], [0] * 4 + [1]])
        self.assertEqual([house.clock(), house.gap_count], [ratios(*[0] * 6, 1), 3])
        for power in range(1, 6):
            self.assertIs(is_parted(house, [0] * power + [1]), False)
        self.assertIs(is_parted(house, [0] * 6 + [1]), True)

    def test_any(self):
        for house in some_houses():
            clock = house.clock()
            for first in [clock, [1], [Ratio(-7, 3)], scaled(clock, Ratio(-2, 5))]:
                self.assertIs(self.unchanged(is_parted, house, first), True)
            for first in [[], [0, 0], [*([0] * len(clock)), 1], times(clock, [0, 1])]:
                self.assertIs(is_parted(house, first), False)
            for number in numbers_for(house):
                found = bundle(house, number)
                other = divided(clock, found)[0]
                for factor in [found, scaled(found, 3), other, scaled(other, -HALF)]:
                    self.assertIs(is_parted(house, factor), True)
                if 0 < degree(found) and 0 < degree(other):
                    ties = [Room(factor, house.base()).ties for factor in (found, other)]
                    self.assertEqual(sum(ties), house.gap_count)
                    self.assertEqual(ties[0], bundle_gaps(house, number))
                self.check_proper_parts(house, number, found)

    def check_proper_parts(self, house, number, found):
        """Nothing that has some roots of a bundle alone parts the house."""
        for one, often in clock_times(house):
            line = plus([0, 1], [one * -1])
            if same_place(house, one, number) and often > 1:
                self.assertIs(is_parted(house, line), False)
            if same_place(house, one, number) and degree(found) > often:
                self.assertIs(is_parted(house, part_with(found, line)), False)

    def test_by_the_room(self):
        # Where nothing is in common: what is 1 modulo the one factor and 0 modulo the other one is held, or not.
        source = random.Random(701)
        for house in some_houses():
            roots = clock_times(house)
            for _ in range(4):
                factor = ratios(1)
                for one, often in roots:
                    if source.random() < 0.5:
                        for _ in range(often):
                            factor = times(factor, [one * -1, 1])
                other = divided(house.clock(), factor)[0]
                self.assertIs(is_parted(house, factor), house.holds(one_and_nought(factor, other)))


def one_and_nought(factor, other):
    """The polynomial that is 1 modulo the one and 0 modulo the other one, of no common part."""
    if degree(factor) == 0:
        return []
    older, newer = (other, told([1])), (factor, [])
    while degree(newer[0]) > 0 or degree(older[0]) > 0:
        if newer[0] == [] or degree(newer[0]) == 0 and newer[0]:
            break
        quotient, left = divided(older[0], newer[0])
        older, newer = newer, (left, plus(older[1], scaled(times(quotient, newer[1]), -1)))
    part, often = newer if newer[0] else older
    often = divided(scaled(often, Ratio(1).over(part[0])), factor)[1]
    return times(other, often)


class Great(Case):

    def test_great_fractions(self):
        source = random.Random(702)
        begun = time.monotonic()
        for sizes in [(5, 6), (4, 7), (4, 6), (2, 7), (7, 7, 7, 6)]:
            house = House([six_digits(source, size) for size in sizes])
            house = moved(moved(house, Ratio(123457, 999983), -Ratio(765433, 999979)), Ratio(-999999, 7), 123456)
            number = six_digits(source, 0)[0]
            self.assertEqual(times_at(house, number), [-number, Ratio(1)])
            self.assertEqual([is_plain_time(house, number), bundle(house, number), bundle_gaps(house, number)], [True, ratios(1), 0])
            self.assertEqual([is_parted(house, house.clock()), same_place(house, number, number + 1)], [True, False])
        clock = ratios(1)
        roots = [Ratio(999983, 123457), Ratio(-654321, 999979), Ratio(1, 999999)]
        for root in roots:
            clock = times(clock, [-root, 1])
        house = House([plus(times(clock, six_digits(source, 4)), [number]) for number in (5, 6, HALF, 0)])
        for root in roots:
            self.assertEqual([times_at(house, root), bundle(house, root), bundle_gaps(house, root)], [clock, clock, 2])
            self.assertIs(is_parted(house, [-root, 1]), False)
            self.assertIs(same_place(house, root, roots[0]), True)
        self.assertLess(time.monotonic() - begun, 30)


class Errors(Case):

    def test_houses(self):
        for function in [times_at, is_plain_time, bundle, bundle_gaps]:
            check_house_first(self, function, None, number=None)
        check_house_first(self, same_place, None, None, number=None, other=None)
        check_house_first(self, is_parted, None, first=None)

    def test_numbers(self):
        house = House(CROSS)
        for function in [times_at, is_plain_time, bundle, bundle_gaps]:
            check_numbers(self, function, house, house=house, number=None)
        check_numbers(self, same_place, house, 1, house=house, number=1, other=None)
        for value in NO_NUMBER:
            self.fails(InvalidNumber, {"value": value}, same_place, house, value, "later")
            self.fails(InvalidNumber, {"value": value}, same_place, other="later", number=value, house=House(ALL))
        for value in NO_HOUSE:
            self.fails(InvalidHouse, {"value": value}, same_place, value, True, False)

    def test_polys(self):
        for value in NO_POLY:
            for house in [House(CROSS), House(ALL)]:
                self.fails(InvalidPoly, {"value": value}, is_parted, house, value)
                self.fails(InvalidPoly, {"value": value}, is_parted, first=value, house=house)


class TimesGuarantee(Case):

    def test_roots_of_the_clock(self):
        # A time is a root of the clock exactly if the pen stops there or is at that place at another time, too.
        for house in some_houses():
            for number in numbers_for(house):
                found = fractions(times_at(house, number))
                twice = product(fractions([number * Ratio(-1), 1]), fractions([number * Ratio(-1), 1]))
                stops = rest(found, twice) == []
                others = len(found) > (3 if stops else 2)
                self.assertIs(is_plain_time(house, number), not stops and not others)


if __name__ == "__main__":
    unittest.main()
