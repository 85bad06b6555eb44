"""[24] to [26]: ways, lots, turning counts."""

import random
import unittest

from fromplaces.errors import InvalidCounts, InvalidMany, TooMany
from fromplaces.ratios import Ratio
from fromplaces.ways import a_way, is_way, lots_of_ways, turning_counts, ways
from support import NO_COUNT, NO_COUNTS, NO_KIND, Case

SOME = [[2, 3], (3, 2), [4, 6], [4, 6, 7], [5], [3, 3], [1, 1], [2, 4, 6], [6, 10, 15], [1, 5, 10], [4, 6, 9, 6], [48, 47]]


def all_ways(counts, many):
    """All ways, sorted, by trying them."""
    if not counts:
        return [[]] if many == 0 else []
    return [
        [often] + way for often in range(many // counts[0] + 1)
        for way in all_ways(counts[1:], many - often * counts[0])
    ]


def all_lots(found):
    """The lots of ways, by neighbours."""
    lots = []
    for way in found:
        near = [lot for lot in lots if any(any(a and b for a, b in zip(way, one)) for one in lot)]
        lots = [lot for lot in lots if lot not in near] + [[way] + [one for lot in near for one in lot]]
    return sorted(sorted(lot) for lot in lots)


class WrongValues(Case):

    def test_counts(self):
        for value in NO_COUNTS:
            for function in [ways, a_way, lots_of_ways]:
                self.fails(InvalidCounts, {"value": value}, function, value, "later")
                self.fails(InvalidCounts, {"value": value}, function, many=201, counts=value)
            self.fails(InvalidCounts, {"value": value}, is_way, value, "later", [0])
            self.fails(InvalidCounts, {"value": value}, turning_counts, value)
            self.fails(InvalidCounts, {"value": value}, turning_counts, counts=value)

    def test_many(self):
        for value in NO_COUNT + [201, 10 ** 20]:
            for function in [ways, a_way, lots_of_ways]:
                self.fails(InvalidMany, {"value": value}, function, [2, 3], value)
                self.fails(InvalidMany, {"value": value}, function, [1] * 8, value)
            self.fails(InvalidMany, {"value": value}, is_way, [2, 3], value, "any")
        for function in [ways, a_way, lots_of_ways]:
            function([2, 3], 0)
            function([2, 3], 200)

    def test_too_many_ways(self):
        for counts, many in [([1, 1], 200), ([1, 2], 200), ([2, 2, 2], 52), ([1, 40], 200)]:
            found = all_ways(counts, many)
            self.assertLessEqual(len(found), 400)
            self.assertEqual(ways(counts, many), found)
        for counts, many in [([1] * 8, 200), ([1, 1, 1], 27), ([2, 2, 2], 200), ([1, 2, 3], 200)]:
            for function in [ways, lots_of_ways]:
                self.fails(TooMany, {"what": "ways", "limit": 400}, function, counts, many)

    def test_just_the_limit_of_ways(self):
        exact, beyond = [], []
        for counts in [[1, 1, 2, 3], [1, 2, 3], [2, 3, 3, 4], [1, 3, 4], [2, 2, 3, 5], [1, 2, 6], [1, 2, 7], [1, 4, 5]]:
            for many in range(10, 150):
                number = len(all_ways(counts, many))
                if number == 400:
                    exact.append((counts, many))
                if number == 401:
                    beyond.append((counts, many))
                if number > 401:
                    break
        self.assertTrue(exact and beyond)
        for counts, many in exact:
            self.assertEqual(len(ways(counts, many)), 400)
            self.assertEqual(sum(len(lot) for lot in lots_of_ways(counts, many)), 400)
        for counts, many in beyond:
            self.fails(TooMany, {"what": "ways", "limit": 400}, ways, counts, many)
            self.fails(TooMany, {"what": "ways", "limit": 400}, lots_of_ways, counts, many)
            self.assertEqual(a_way(counts, many), all_ways(counts, many)[-1])

    def test_turning_limit(self):
        for counts in [[25], [2, 25], (48, 47), [1, 25, 1]]:
            self.fails(TooMany, {"what": "count", "limit": 24}, turning_counts, counts)
        turning_counts([24] * 8)
        self.fails(InvalidCounts, {"value": [49]}, turning_counts, [49])


class Ways(Case):

    def test_ways(self):
        for counts in SOME:
            for many in list(range(0, 40)) + [94, 95, 96]:
                wanted = sorted(all_ways(list(counts), many))
                found = self.unchanged(ways, counts, many)
                self.assertEqual(found, wanted)
                for way in found:
                    self.is_integers(way)
                    self.assertIs(is_way(counts, many, way), True)
                last = self.unchanged(a_way, counts, many)
                self.assertEqual(last, wanted[-1] if wanted else None)

    def test_by_hand(self):
        self.assertEqual(ways([2, 3], 6), [[0, 2], [3, 0]])
        self.assertEqual(ways([3, 3], 3), [[0, 1], [1, 0]])
        self.assertEqual(ways([5], 0), [[0]])
        self.assertEqual(ways([5], 4), [])
        self.assertEqual(ways(many=0, counts=[2, 2, 2]), [[0, 0, 0]])
        self.assertEqual(a_way(many=6, counts=(2, 3)), [3, 0])
        self.assertEqual(a_way((3, 2), 6), [2, 0])
        self.assertIsNone(a_way([4, 6], 9))
        self.assertEqual(a_way([48], 0), [0])

    def test_a_way_among_very_many(self):
        self.assertEqual(a_way([1] * 8, 200), [200, 0, 0, 0, 0, 0, 0, 0])
        self.assertEqual(a_way([7, 6, 5, 4, 3, 2, 1, 1], 200), [28, 0, 0, 1, 0, 0, 0, 0])
        self.assertEqual(a_way([3, 6, 9, 12, 15, 18, 2, 1], 200), [66, 0, 0, 0, 0, 0, 1, 0])
        self.assertEqual(a_way([4, 6, 8, 10, 12, 14, 16, 18], 200), [50, 0, 0, 0, 0, 0, 0, 0])
        self.assertIsNone(a_way([4, 6, 8, 10, 12, 14, 16, 18], 199))
        great = [48, 47, 46, 45, 44, 43, 42, 41]
        for many in [180, 192, 200]:
            self.assertEqual(a_way(great, many), (all_ways(great, many) or [None])[-1])

    def test_is_way_of_any_value(self):
        for value in [[0, 2], (0, 2), [3, 0], (3, 0)]:
            self.assertIs(is_way([2, 3], 6, value), True)
        wrong = NO_KIND + [
            6, Ratio(6), [], [0], [2], [0, 2, 0], [1, 1], [0, 0], [-3, 4], [6, -2], [0, Ratio(2)], [Ratio(3), 0],
            [False, 2], [3, False], [0, "2"], [None, 2], [[0, 2]], [[0], [2]], [0, True],
        ]
        for value in wrong:
            self.assertIs(is_way([2, 3], 6, value), False, value)
        self.assertIs(is_way([1, 5], 1, [True, 0]), False)
        self.assertIs(is_way([5], 0, [0]), True)
        self.assertIs(is_way([5], 0, [1]), False)
        self.assertIs(is_way(value=[1] * 8, many=8, counts=[1] * 8), True)
        self.assertIs(is_way([1], 200, [200]), True)
        self.assertIs(is_way([1], 200, [10 ** 30]), False)


class Lots(Case):

    def test_lots(self):
        for counts in SOME:
            for many in range(0, 40):
                found = self.unchanged(lots_of_ways, counts, many)
                self.assertEqual(found, all_lots(all_ways(list(counts), many)))

    def test_by_hand(self):
        self.assertEqual(lots_of_ways([2, 3], 6), [[[0, 2]], [[3, 0]]])
        self.assertEqual(lots_of_ways(many=8, counts=[2, 3]), [[[1, 2], [4, 0]]])
        self.assertEqual(lots_of_ways([2, 3], 1), [])
        self.assertEqual(lots_of_ways([2, 3], 0), [[[0, 0]]])
        self.assertEqual(lots_of_ways([3, 3], 3), [[[0, 1]], [[1, 0]]])
        self.assertEqual(lots_of_ways([3, 3], 6), [[[0, 2], [1, 1], [2, 0]]])
        self.assertEqual(lots_of_ways([6, 10, 15], 30), [[[0, 0, 2]], [[0, 3, 0]], [[5, 0, 0]]])


class Turning(Case):

    def check(self, counts, many):
        found = self.unchanged(turning_counts, counts)
        self.is_integers(found)
        wanted = [count for count in range(many) if len(all_lots(all_ways(list(counts), count))) > 1]
        self.assertEqual([count for count in found if count < many], wanted)

    def test_turning_counts(self):
        for counts in SOME[:-1]:
            self.check(counts, 42)

    def test_by_hand(self):
        self.assertEqual(turning_counts([2, 3]), [6])
        self.assertEqual(turning_counts([4, 6, 7]), [12, 14])
        self.assertEqual(turning_counts(counts=(6, 4)), [12])
        self.assertEqual(turning_counts([3, 3]), [3])
        self.assertEqual(turning_counts([3, 3, 3]), [3])
        self.assertEqual(turning_counts([6, 10, 15]), [30])
        self.assertEqual(turning_counts([1, 1]), [1])
        self.assertEqual(turning_counts([1, 7]), [7])
        self.assertEqual(turning_counts([2, 4]), [4])

    def test_one_count_alone(self):
        for count in range(1, 25):
            self.assertEqual(turning_counts([count]), [])

    def test_two_counts(self):
        for one, two, least in [(23, 24, 552), (12, 18, 36), (24, 24, 24), (5, 20, 20), (22, 21, 462)]:
            self.assertEqual(turning_counts([one, two]), [least])

    def test_any(self):
        source = random.Random(41)
        for _ in range(40):
            counts = [source.randint(2, 9) for _ in range(source.randint(2, 4))]
            self.check(counts, 30)

    def test_eight_counts(self):
        self.assertEqual(turning_counts([24] * 8), [24])
        self.check([17, 18, 19, 20, 21, 22, 23, 24], 80)
        self.check([24, 5, 7, 11, 13, 17, 19, 23], 50)


if __name__ == "__main__":
    unittest.main()
