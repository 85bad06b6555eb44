"""[21] to [23]: met counts, the common count, least counts, gaps, mirrored counts."""

import itertools
import math
import random
import unittest

from fromplaces.counts import common_count, gaps, greatest_gap, is_met, is_mirrored, least_counts, met
from fromplaces.errors import InvalidCounts, InvalidMany, NotAll
from support import NO_COUNT, NO_COUNTS, Case

SOME = [
    [1], [48], [2, 3], [3, 2], (3, 2, 3), [4, 6], [6, 4], [4, 6, 7], [7, 6, 4, 6], [3, 4, 5], [5, 5, 5], [1, 48],
    [6, 10, 15], [6, 10, 4, 7], [48, 47], [47, 48, 46, 45, 44, 43, 42, 41], [12, 18, 30], [48] * 8, [9, 10, 11, 12, 13],
]
ALONE = [common_count, least_counts, gaps, greatest_gap, is_mirrored]


def sums(counts, many):
    """What is met, to many, by what the word says."""
    found = {0}
    for count in range(1, many + 1):
        if any(count - one in found for one in counts):
            found.add(count)
    return found


class WrongValues(Case):

    def test_counts(self):
        for value in NO_COUNTS:
            for function in ALONE:
                self.fails(InvalidCounts, {"value": value}, function, value)
                self.fails(InvalidCounts, {"value": value}, function, counts=value)
            for function in [is_met, met]:
                self.fails(InvalidCounts, {"value": value}, function, value, "later")
                self.fails(InvalidCounts, {"value": value}, function, value, 401)

    def test_just_within_and_beyond(self):
        for counts in [[1], [48], [1] * 8, (48,) * 8]:
            for function in [common_count, least_counts]:
                function(counts)
        for counts in [[0], [49], [1] * 9, []]:
            for function in ALONE:
                self.fails(InvalidCounts, {"value": counts}, function, counts)

    def test_many(self):
        for value in NO_COUNT + [401, 10 ** 20]:
            for function in [is_met, met]:
                self.fails(InvalidMany, {"value": value}, function, [2, 3], value)
                self.fails(InvalidMany, {"value": value}, function, many=value, counts=(2,))
        for function in [is_met, met]:
            function([2], 0)
            function([2], 400)

    def test_not_all(self):
        for counts in [[2], [48], [4, 6], (6, 4, 8), [5, 5], [6, 9, 12, 15]]:
            for function in [gaps, greatest_gap, is_mirrored]:
                self.fails(NotAll, {}, function, counts)
        self.fails(InvalidCounts, {"value": [2, 50]}, gaps, [2, 50])


class Met(Case):

    def test_common_count(self):
        for counts in SOME:
            self.alike(self.unchanged(common_count, counts), math.gcd(*counts))
        self.alike(common_count(counts=[6, 4]), 2)

    def test_met(self):
        for counts in SOME:
            for many in [0, 1, 2, 7, 48, 100, 399, 400]:
                found = self.unchanged(met, counts, many)
                self.is_integers(found)
                self.assertEqual(found, sorted(one for one in sums(counts, many) if one <= many))
                self.assertIs(self.unchanged(is_met, counts, many), many in found)
        self.assertEqual(met(many=5, counts=[2]), [0, 2, 4])
        self.assertIs(is_met(many=5, counts=[2]), False)

    def test_nought_is_met(self):
        for counts in SOME:
            self.assertIs(is_met(counts, 0), True)
            self.assertEqual(met(counts, 0), [0])

    def test_least_counts(self):
        for counts in SOME:
            reached = sums(counts, 48)
            wanted = [
                one for one in sorted(set(counts))
                if not any(part in reached and one - part in reached for part in range(1, one))
            ]
            found = self.unchanged(least_counts, counts)
            self.is_integers(found)
            self.assertEqual(found, wanted)
            self.assertEqual(met(found, 400), met(counts, 400))
        self.assertEqual(least_counts([6, 10, 4, 7]), [4, 6, 7])
        self.assertEqual(least_counts(counts=[3, 1, 3]), [1])
        self.assertEqual(least_counts([41, 42, 43, 44, 45, 46, 47, 48]), [41, 42, 43, 44, 45, 46, 47, 48])

    def test_sequence_and_twice(self):
        for counts in itertools.permutations([4, 6, 7, 4]):
            self.assertEqual(least_counts(counts), [4, 6, 7])
            self.assertEqual(gaps(counts), [1, 2, 3, 5, 9])
            self.assertEqual(met(counts, 9), [0, 4, 6, 7, 8])
            self.assertEqual([greatest_gap(counts), is_mirrored(counts), common_count(counts)], [9, True, 1])


class Gaps(Case):

    def check(self, counts):
        reached = sums(counts, 2400)
        wanted = [one for one in range(2400) if one not in reached]
        found = self.unchanged(gaps, counts)
        self.is_integers(found)
        self.assertEqual(found, wanted)
        last = greatest_gap(counts)
        if not wanted:
            self.assertIsNone(last)
            self.assertIs(is_mirrored(counts), True)
            return
        self.alike(last, wanted[-1])
        mirrored = all((one in reached) != (last - one in reached) for one in range(last + 1))
        self.assertIs(self.unchanged(is_mirrored, counts), mirrored)

    def test_some(self):
        for counts in SOME:
            if math.gcd(*counts) == 1:
                self.check(counts)

    def test_by_hand(self):
        self.assertEqual(gaps([2, 3]), [1])
        self.assertEqual(gaps(counts=[4, 6, 7]), [1, 2, 3, 5, 9])
        self.assertEqual([gaps([1]), gaps((1, 48)), gaps([48, 1])], [[], [], []])
        self.assertEqual([greatest_gap([1]), greatest_gap(counts=[2, 3])], [None, 1])
        self.assertEqual([is_mirrored([1]), is_mirrored(counts=[3, 4, 5]), is_mirrored([3, 5, 7])], [True, False, False])
        self.assertEqual([is_mirrored([4, 5, 6]), is_mirrored([2, 47])], [True, True])

    def test_two_counts(self):
        for one in range(1, 49):
            for two in [one + 1, 47, 48]:
                if two <= 48 and math.gcd(one, two) == 1:
                    found = gaps([one, two])
                    self.assertEqual(len(found), (one - 1) * (two - 1) // 2)
                    self.assertEqual(greatest_gap([one, two]), one * two - one - two if found else None)
                    self.assertIs(is_mirrored([one, two]), True)

    def test_any(self):
        source = random.Random(31)
        for _ in range(60):
            counts = [source.randint(1, 48) for _ in range(source.randint(2, 8))]
            if math.gcd(*counts) == 1:
                self.check(counts)


if __name__ == "__main__":
    unittest.main()
