"""[84] to [86]: houses moved, even houses, power houses."""

import random
import time
import unittest

from fromplaces.counts import gaps, greatest_gap, is_met
from fromplaces.errors import InvalidCounts, InvalidHouse, InvalidNumber, NotAll, NoughtFirst, TooMany
from fromplaces.houses import House
from fromplaces.moves import is_even, is_moved, is_power_house, moved, power_house
from fromplaces.polys import degree, divided, put_in, scaled
from fromplaces.ratios import Ratio
from fromplaces.together import met_house
from places import ALL, CROSS, CUSP, HALF, NO_HOUSE, check_house_first, of_clock, some_houses, some_makers
from support import NO_COUNTS, NO_NUMBER, Case, ratios, six_digits

LOOP, STOP, EVERY = House(CROSS), House(CUSP), House(ALL)
MOVES = [(1, 0), (2, 1), (-1, 0), (-3, HALF), (HALF, Ratio(-7, 3)), (Ratio(1), Ratio(0)), (5, -2)]


class Moved(Case):

    def test_by_makers(self):
        for makers, house in zip(some_makers(), some_houses()):
            for first, second in MOVES:
                found = self.unchanged(moved, house, first, second)
                wanted = House([put_in(one, [second, first]) for one in makers])
                self.assertIs(type(found), House)
                self.assertEqual([found, repr(found)], [wanted, repr(wanted)])
                self.assertEqual([found.gaps(), found.clock(), found.room()], [wanted.gaps(), wanted.clock(), wanted.room()])
                self.assertEqual(found.gaps(), house.gaps())
                clock = put_in(house.clock(), [second, first])
                self.assertEqual(found.clock(), scaled(clock, Ratio(1).over(clock[-1])))
                for poly in [[0, 1], [0, 0, 1], [1, 2, 3, 4, 5], [0] * 30 + [1]]:
                    self.assertEqual(found.left(poly), wanted.left(poly))
                for one in house.base():
                    self.assertIs(found.holds(put_in(one, [second, first])), True)

    def test_by_hand(self):
        self.assertEqual(moved(LOOP, 2, 1).clock(), ratios(0, 1, 1))
        self.assertIs(moved(LOOP, 2, 1).holds([3, 1, 1]), True)
        self.assertEqual(moved(second=1, first=2, house=LOOP), House([[0, 1, 1], [0, -1, 0, 1]]))
        self.assertEqual(moved(STOP, 1, 1).clock(), ratios(1, 2, 1))
        self.assertEqual(moved(EVERY, 7, HALF), EVERY)

    def test_as_before_and_twice(self):
        for house in some_houses():
            self.assertEqual(moved(house, 1, 0), house)
            for (a, b), (c, d) in [((2, 1), (-3, 5)), ((HALF, 7), (4, Ratio(-1, 3))), ((-1, 0), (-1, 0))]:
                self.assertEqual(moved(moved(house, a, b), c, d), moved(house, a * c, a * Ratio(1) * d + b))
                back = moved(moved(house, a, b), Ratio(1).over(a), (b * Ratio(-1)).over(a))
                self.assertEqual([back, repr(back)], [house, repr(house)])

    def test_is_moved(self):
        for house in some_houses():
            for first, second in MOVES:
                found = moved(house, first, second)
                self.assertIs(self.unchanged(is_moved, house, found, first, second), True)
                self.assertIs(is_moved(second=second, first=first, other=found, house=house), True)
                other = moved(house, first, second + Ratio(1))
                self.assertIs(is_moved(house, other, first, second), other == found)
                self.assertIs(is_moved(house, EVERY, first, second), house == EVERY)
                self.assertIs(is_moved(EVERY, house, first, second), house == EVERY)
        for house, other, first, second, wanted in [
            (LOOP, House([[0, 1, 1], [0, -1, 0, 1]]), 2, 1, True), (STOP, STOP, -3, 0, True), (STOP, STOP, 1, 1, False),
            (LOOP, LOOP, -1, 0, True), (LOOP, LOOP, 2, 0, False), (LOOP, STOP, 1, 0, False), (LOOP, LOOP, 1, 1, False),
        ]:
            self.assertIs(is_moved(house, other, first, second), wanted)

    def test_nought_first(self):
        for nought in [0, Ratio(0), Ratio(0, -5)]:
            for house in [LOOP, EVERY]:
                self.fails(NoughtFirst, {}, moved, house, nought, 1)
                self.fails(NoughtFirst, {}, moved, second=HALF, first=nought, house=house)
                self.fails(NoughtFirst, {}, is_moved, house, STOP, nought, 1)
                self.fails(NoughtFirst, {}, is_moved, second=0, first=nought, other=LOOP, house=house)

    def test_wrong_values(self):
        check_house_first(self, moved, None, 0, first=0, second=None)
        check_house_first(self, is_moved, None, None, 0, first=0, second=None, other=None)
        for value in NO_HOUSE:
            self.fails(InvalidHouse, {"value": value}, is_moved, LOOP, value, None, None)
        for value in NO_NUMBER:
            self.fails(InvalidNumber, {"value": value}, moved, LOOP, value, None)
            self.fails(InvalidNumber, {"value": value}, moved, LOOP, 0, value)
            self.fails(InvalidNumber, {"value": value}, moved, second=value, first=0, house=EVERY)
            self.fails(InvalidNumber, {"value": value}, is_moved, LOOP, STOP, value, None)
            self.fails(InvalidNumber, {"value": value}, is_moved, LOOP, STOP, 0, value)
            self.fails(InvalidNumber, {"value": value}, is_moved, second=None, first=value, other=LOOP, house=LOOP)


class Even(Case):

    def test_any(self):
        source = random.Random(730)
        for makers, house in zip(some_makers(), some_houses()):
            found = self.unchanged(is_even, house)
            self.assertIs(found, degree(house.clock()) == 2 * house.gap_count)
            if len(makers) == 2:
                self.assertIs(found, True)
            self.assertIs(is_even(moved(house, source.choice([2, -1, HALF]), 3)), found)

    def test_by_hand(self):
        for house, wanted in [
            (LOOP, True), (EVERY, True), (House([[0, 0, 1], [0, 1, 1]]), True), (power_house([3, 4, 5]), False), (power_house([4, 6, 7]), True),
            (power_house([3, 5, 7]), False), (House(of_clock([0, -1, 0, 1])), False), (House(of_clock([0, 0, 1])), True), (power_house([4, 5, 6]), True),
            (power_house([4, 5, 6, 7]), False), (power_house([5, 6]), True), (met_house(LOOP, STOP), True),
        ]:
            self.assertIs(is_even(house), wanted)
            self.assertIs(is_even(house=house), wanted)

    def test_houses(self):
        for value in NO_HOUSE:
            for function in [is_even, is_power_house]:
                self.fails(InvalidHouse, {"value": value}, function, value)
                self.fails(InvalidHouse, {"value": value}, function, house=value)


class Power(Case):

    def test_all_counts(self):
        # All lists of unlike counts, by their bits.
        for bits in range(1, 128):
            counts = [one for one in range(1, 8) if bits >> (one - 1) & 1]
            if len(counts) > 4:
                continue
            shared = [n for n in range(2, 8) if all([one % n == 0 for one in counts])]
            if shared:
                self.fails(NotAll, {}, power_house, counts)
            elif len(gaps(counts)) > 10:
                self.fails(TooMany, {"what": "gaps", "limit": 10}, power_house, counts)
            else:
                house = self.unchanged(power_house, counts)
                self.assertEqual(house, House([[0] * one + [1] for one in counts]))
                self.assertEqual(house.gaps(), gaps(counts))
                last = greatest_gap(counts)
                self.assertEqual(house.clock(), ratios(*[0] * (last + 1), 1) if last else ratios(1))
                for poly in [[1] * 9, [0] * 5 + [1, 0, 3], [0, 0, 1, 0, 5, 0, 7], [3]]:
                    wanted = all([number == 0 or is_met(counts, power) for power, number in enumerate(poly)])
                    self.assertIs(house.holds(poly), wanted)
                self.assertIs(is_power_house(house), True)
                self.assertIs(is_moved(house, house, Ratio(-7, 3), 0), True)

    def test_any_sequence(self):
        for counts in [[3, 2], (2, 3), [2, 3, 2], [3, 3, 2, 2], [2, 5, 3], [6, 3, 2]]:
            self.assertEqual(self.unchanged(power_house, counts), STOP)
        for counts in [[1], [1, 1], [7, 1], [5, 1, 3, 7], [4, 1]]:
            self.assertEqual(power_house(counts=counts), EVERY)
        self.assertEqual(power_house([6, 7, 4]).gaps(), [1, 2, 3, 5, 9])

    def test_wrong_counts(self):
        wrong = NO_COUNTS + [[8], [2, 8], [1, 2, 3, 4, 5], (2, 3, 5, 7, 1), [0, 1], [7, 0], [2, 3, True], [48], [Ratio(2), 3], ["2", 3], [2, [3]]]
        for value in wrong:
            self.fails(InvalidCounts, {"value": value}, power_house, value)
            self.fails(InvalidCounts, {"value": value}, power_house, counts=value)

    def test_errors_of_state(self):
        for counts in [[2], [7], [2, 4, 6], [6, 3], [3, 3, 3, 3], [4, 6], [7, 7]]:
            self.fails(NotAll, {}, power_house, counts)
        for counts in [[5, 7], [7, 6], [6, 7, 6, 7]]:
            self.fails(TooMany, {"what": "gaps", "limit": 10}, power_house, counts)
        self.assertEqual(power_house([5, 6]).gap_count, 10)

    def test_is_power_house(self):
        for house in some_houses():
            wanted = all([number.sign == 0 for one in house.base() for number in one[:-1]])
            self.assertIs(self.unchanged(is_power_house, house), wanted)
        for makers, wanted in [
            (CUSP, True), (CROSS, False), (ALL, True), ([[5, 3]], True), ([[1, 0, 7], [2, 0, 5, 3]], True), ([[0, 0, 1], [0, 0, 0, 1, 0, 1]], False),
            ([[0, 0, 0, 1, 1], [0, 0, 0, 0, 3]], True), ([[0, 0, 0, 1, 0, 1], [0, 0, 0, 0, 3]], False), ([[0, 0, 1, 1], [0, 0, 0, 0, 1]], False),
        ]:
            self.assertIs(is_power_house(House(makers)), wanted)
        self.assertIs(is_power_house(house=moved(STOP, 5, 0)), True)
        self.assertIs(is_power_house(moved(STOP, 5, 1)), False)


class Great(Case):

    def test_great_fractions(self):
        source = random.Random(731)
        begun = time.monotonic()
        a, b, c, d = Ratio(123457, 999983), Ratio(-765433, 999979), Ratio(-999999, 7), Ratio(1, 999999)
        for sizes in [(5, 6), (4, 7), (4, 6), (2, 7), (7, 7, 6, 5), (3, 4)]:
            house = House([six_digits(source, size) for size in sizes])
            once = moved(house, a, b)
            twice = moved(once, c, d)
            self.assertEqual(twice, moved(house, a * c, a * d + b))
            self.assertEqual(twice.gaps(), house.gaps())
            self.assertEqual(divided(put_in(house.clock(), [a * d + b, a * c]), twice.clock())[1], [])
            self.assertIs(is_moved(once, twice, c, d), True)
            self.assertIs(is_moved(house, twice, c, d), house == EVERY)
            thrice = moved(moved(moved(twice, a, b), a, b), c, d)
            self.assertEqual([is_even(thrice), is_power_house(thrice)], [is_even(house), house == EVERY])
        self.assertLess(time.monotonic() - begun, 30)


if __name__ == "__main__":
    unittest.main()
