"""[41], [42], [44], [45]: met counts, full bases, makings of them, the common degree and the inner part."""

import random
import time
import unittest

from fromplaces.bases import base_makings, common_degree, full_base, inner_part, is_full_base, met_counts
from fromplaces.counts import least_counts, met
from fromplaces.errors import InvalidMakers
from fromplaces.inner import outer
from fromplaces.makings import is_making, made_by
from fromplaces.polys import degree, plus, put_in, scaled, times, told
from fromplaces.ratios import Ratio
from oracle import fractions, made_of
from support import NO_KIND, NO_MAKERS, Case, digits_of, ratios, six_digits, small_makers, told_ratios

HALF = Ratio(1, 2)
# Makers, with their full bases.
KNOWN = [
    ([[0, 0, 1]], [[0, 0, 1]]),
    ([[5, 3]], [[0, 1]]),
    ([[3, 0, 2], [0, -1, 0, 1]], [[0, 0, 1], [0, -1, 0, 1]]),
    ([[0, 0, 0, 0, 1], [0] * 6 + [1], [0, -1] + [0] * 5 + [1]], [[0, 0, 1], [0, -1] + [0] * 5 + [1]]),
    ([[1, 2, 1], [0, 4, 6, 4, 1]], [[0, 2, 1]]),
    ([[0, 0, 1], [0, 0, 0, 1]], [[0, 0, 1], [0, 0, 0, 1]]),
    ([[0, 0, 0, 1], [1, 0, 2]], [[0, 0, 1], [0, 0, 0, 1]]),
    ([[0, 0, 0, HALF]], [[0, 0, 0, 1]]),
    ([[0, 0, 1], [0, 0, 1]], [[0, 0, 1]]),
    ([[0, 0, 1], (1, 0, 0, 0, 2)], [[0, 0, 1]]),
    ([[0, 0, 0, 1], [0, 0, 0, 0, 1], [0, 0, 0, 0, 0, 1]], [[0, 0, 0, 1], [0, 0, 0, 0, 1], [0, 0, 0, 0, 0, 1]]),
    ([[0, 0, 0, 0, 1], [0, 0, 0, 1, 0, 0, 1]], [[0, 0, 0, 0, 1], [0, 0, 0, 1, 0, 0, 1], [0, 0, 0, -HALF] + [0] * 5 + [1]]),
    ([[0, 0, 0, 0, 1], [0, 1, 0, 0, 0, 0, 1]], [[0] * 4 + [1], [0, 1, 0, 0, 0, 0, 1], [0, 0, HALF] + [0] * 4 + [1]]),
    ([[0, 0, 0, 0, 0, 0, 1], [0, 0, 0, 1, 1, 0, 0], [0, 0, 0, 1]], [[0, 0, 0, 1], [0, 0, 0, 0, 1]]),
    ([[0, 2, 1], [0, 0, 0, 8, 12, 6, 1]], [[0, 2, 1]]),
    # Both are polynomials of t t + t: by these, t t and t t t.
    ([[0, 0, 1, 2, 1], [0, 0, 0, 1, 3, 3, 1]], [[0, 0, 1, 2, 1], [0, 0, -3, -5, 0, 3, 1]]),
    ([[0] * 5 + [1], [0, 1, 0, 0, 1], [0] * 6 + [1], [0, 0, 0, 0, 0, 0, 0, 1]], None),
]


class Bases(Case):

    def test_known(self):
        for makers, base in KNOWN:
            found = self.unchanged(full_base, makers)
            if base is not None:
                self.assertEqual(found, told_ratios(base))
                self.assertEqual(self.unchanged(met_counts, makers), [len(one) - 1 for one in base])
            for one in found:
                self.is_told(one)
            self.assertIs(is_full_base(makers, found), True)

    def test_by_closing_up(self):
        source = random.Random(41)
        for _ in range(80):
            makers = small_makers(source)
            base, counts = full_base(makers), met_counts(makers)
            self.is_integers(counts)
            made = made_of(makers, 42)
            self.assertEqual([n for n in range(31) if n in made], met(counts, 30))
            self.assertEqual(counts, least_counts(counts))
            self.assertEqual([fractions(one) for one in base], [made[count] for count in counts])

    def test_form(self):
        source = random.Random(42)
        for _ in range(60):
            makers = small_makers(source)
            base, counts = full_base(makers), met_counts(makers)
            for one, count in zip(base, counts):
                self.is_told(one)
                self.assertEqual(degree(one), count)
                self.assertEqual(one[-1], Ratio(1))
                for power in met(counts, count - 1):
                    self.assertEqual(one[power], Ratio(0))

    def test_what_makes_the_same(self):
        source = random.Random(43)
        for _ in range(40):
            makers = small_makers(source, 5)
            base = full_base(makers)
            others = [plus(scaled(one, Ratio(source.choice([-3, 2, 5]), 7)), [source.randint(-4, 4)]) for one in makers]
            self.assertEqual(full_base(others), base)
            self.assertEqual(full_base(others[::-1]), base)
            self.assertEqual(full_base(tuple([tuple(one) for one in makers])), base)
            if len(makers) < 4:
                self.assertEqual(full_base([*makers, makers[0]]), base)
                more = [times(one, other) for one in makers for other in others if degree(one) + degree(other) < 8]
                for one in more:
                    self.assertEqual(full_base([one, *makers]), base)
                    self.assertEqual(full_base([plus(makers[0], one), *makers]), base)
            if all(degree(one) < 8 for one in base) and len(base) < 5:
                self.assertEqual(full_base(base), base)

    def test_is_full_base_of_any_value(self):
        for makers, _ in KNOWN:
            base = full_base(makers)
            for value in [base, tuple(base), [tuple(one) for one in base], [[*one, 0, Ratio(0)] for one in base]]:
                self.assertIs(is_full_base(makers, value), True)
            wrong = [
                [], base + [[0, 1]], base[:-1], base[::-1] if len(base) > 1 else [], [base], base + base,
                [scaled(one, 2) for one in base], [plus(one, [1]) for one in base], base + [[]], [None] + base[1:],
            ]
            for value in wrong + NO_KIND + [5, HALF, [5], [True]]:
                self.assertIs(is_full_base(makers, value), False, value)
        self.assertIs(is_full_base(value=[[0, 0, 1]], makers=[[0, 0, 1]]), True)
        self.assertIs(is_full_base([[0, 1]], [[False, 1]]), False)
        self.assertIs(is_full_base([[0, 1]], [[0, True]]), False)
        self.assertIs(is_full_base(KNOWN[2][0], KNOWN[2][0]), False)

    def test_makers(self):
        for value in NO_MAKERS:
            for function in [full_base, base_makings, met_counts, common_degree, inner_part]:
                self.fails(InvalidMakers, {"value": value}, function, value)
                self.fails(InvalidMakers, {"value": value}, function, makers=value)
            self.fails(InvalidMakers, {"value": value}, is_full_base, value, [[0, 1]])


class Makings(Case):

    def check(self, makers):
        base = full_base(makers)
        found = self.unchanged(base_makings, makers)
        self.assertIs(type(found), list)
        self.assertEqual(len(found), len(base))
        for making, one in zip(found, base):
            self.assertIs(type(making), list)
            self.assertIs(is_making(makers, making), True)
            self.assertEqual(made_by(makers, making), one)
            for line in making:
                self.assertIs(type(line), list)
                for part in line:
                    self.assertEqual([type(one) for one in part], [int, int, Ratio])
        return max([digits_of([number for _, _, number in line]) for making in found for line in making])

    def test_known(self):
        for makers, _ in KNOWN:
            self.check(makers)

    def test_any(self):
        source = random.Random(44)
        for _ in range(60):
            self.check(small_makers(source))

    def test_great_fractions(self):
        source = random.Random(45)
        begun = time.monotonic()
        for sizes in [(7, 7, 7, 7), (7, 7, 7), (4, 5, 6, 7), (6, 7), (4, 6), (5, 6, 7), (7,), (2, 7), (6, 7, 7)]:
            self.assertLessEqual(self.check([six_digits(source, size) for size in sizes]), 2000)
        self.assertLess(time.monotonic() - begun, 60)


class Inner(Case):

    def test_common_degree(self):
        for makers, wanted in [
            (KNOWN[2][0], 1), ([[1, 2, 1], [0, 4, 6, 4, 1]], 2), ([[0] * 6 + [1]], 6), ([[0] * 6 + [1], [0] * 4 + [1]], 2),
            ([[0] * 6 + [1], [0, 0, 0, 1]], 3), ([[0] * 6 + [1], [0, 1, 0, 1]], 1), ([[0, 0, 1], [0, 1, 1]], 1),
            ([[0, 1, 0, 0, 0, 0, 1], [0, 2, 0, 0, 0, 0, 2]], 6), ([[0] * 7 + [5]], 7),
        ]:
            found = self.unchanged(common_degree, makers)
            self.alike(found, wanted)

    def test_inner_part(self):
        self.assertEqual(inner_part([[1, 2, 1], [0, 4, 6, 4, 1]]), ratios(0, 2, 1))
        self.assertEqual(inner_part(KNOWN[2][0]), ratios(0, 1))
        self.assertEqual(inner_part([[7, 4, 2]]), ratios(0, 2, 1))
        self.assertEqual(inner_part([[0, 0, 1], [0, 1, 1]]), ratios(0, 1))
        source = random.Random(46)
        for _ in range(60):
            h = [0] + [source.randint(-2, 2) for _ in range(source.randint(0, 2))] + [1]
            outers = [small_makers(source, 7 // degree(h) - 1)[0] if degree(h) < 4 else [1, 2] for _ in range(3)]
            outers = [one for one in outers if degree(one) * degree(h) <= 7]
            makers = [put_in(one, h) for one in outers]
            found, step = self.unchanged(inner_part, makers), common_degree(makers)
            self.is_told(found)
            self.assertEqual([degree(found), found[-1], found[0]], [step, Ratio(1), Ratio(0)])
            self.assertEqual(step % degree(h), 0)
            self.assertIsNotNone(outer(found, h))
            inside = [outer(one, found) for one in makers]
            self.assertNotIn(None, inside)
            self.assertEqual(common_degree(inside), 1)
            self.assertEqual([count * step for count in met_counts(inside)], met_counts(makers))
            if degree(h) > 1 and any(degree(one) == 1 for one in outers):
                self.assertEqual(found, told(h))

    def test_all_is_a_polynomial_of_it(self):
        source = random.Random(47)
        for _ in range(30):
            makers = [put_in(one, [0, 3, 1]) for one in small_makers(source, 2)]
            for one in full_base(makers):
                self.assertIsNotNone(outer(one, inner_part(makers)))


if __name__ == "__main__":
    unittest.main()
