"""[6], [32], [33]: makings, what their lines are worth, makings put together."""

import random
import time
import unittest

from fromplaces.errors import InvalidMakers, InvalidMaking, InvalidNumber, TooMany
from fromplaces.makings import is_making, lines_by, made_by, product_making, sum_making
from fromplaces.packed import packed, unpacked
from fromplaces.polys import plus, scaled, times, told
from fromplaces.ratios import Ratio
from oracle import fractions, product
from support import NO_KIND, NO_MAKERS, NO_NUMBER, Case, ratios, six_digits

HALF = Ratio(1, 2)
SOME = [[0, 0, 1], [0, -1, 0, 1]]
FIVE = [[(1, 2, 1), (2, 0, 1)]]
POWERS = [[(1, 1, 1)]] + [[(1, at, 1)] for at in range(2, 96)]
MAKINGS = [
    FIVE, [[]], [[(0, 0, 7)]], [[], [(3, 1, 2)]], ([(1, 2, HALF)], ((3, 3, -1), (0, 4 - 1, Ratio(2, 3)))),
    [[(0, 0, 0)]], [[(1, 1, 1)], [(3, 3, 1)], [(4, 4, 1), (4, 3, 2)]], [[(2, 2, 1)] * 60], [[(0, 1, 1)]] * 200,
    (((1, 0, 1),),),
]
NO_MAKING = NO_KIND + [
    [], (), 5, HALF, [5], [HALF], [None], ["(1, 1, 1)"], [[1]], [[(1, 1)]], [[(1, 1, 1, 1)]], [[()]], [[[1, 1, 1]]],
    [[(1, 1, True)]], [[(1, 1, "1")]], [[(1, 1, None)]], [[(1, 1, [1])]], [[(True, 1, 1)]], [[(1, False, 1)]],
    [[(-1, 1, 1)]], [[(1, -1, 1)]], [[(Ratio(1), 1, 1)]], [[(1, Ratio(0), 1)]], [[(3, 0, 1)]], [[(0, 3, 1)]],
    [[(4, 0, 1)], []], [[], [(4, 0, 1)]], [[], [(0, 5, 1)], []], [(1, 1, 1)], [[(0, 10 ** 30, 1)]], [[(1, 1, 1)], None],
    [[(1, 1, 1)] * 61], [[]] * 201, ([],) * 201, [{}], [{1: 2}], [[(1, 1, 1)], [(1, 1)]], [["111"]], [[(1, 1, {})]],
]


def worths(makers, making):
    """What lines are worth, by own sums."""
    found = [fractions([1])] + [fractions(one) for one in makers]
    for line in making:
        total = []
        for first, second, number in line:
            part = product(product(found[first], found[second]), fractions([number]))
            size = max(len(total), len(part))
            total = [a + b for a, b in zip(total + [0] * (size - len(total)), part + [0] * (size - len(part)))]
        while total and total[-1] == 0:
            total.pop()
        found.append(total)
    return found[len(makers) + 1:]


def some_making(source, makers, many):
    """A making of lines that take what they may."""
    degrees, lines = [0] + [len(told(one)) - 1 for one in makers], []
    for _ in range(many):
        line, degree = [], 0
        for _ in range(source.randint(0, 4)):
            first, second = source.randrange(len(degrees)), source.randrange(len(degrees))
            if degrees[first] + degrees[second] <= 40:
                line.append((first, second, Ratio(source.randint(-3, 3), source.choice([1, 1, 2]))))
                degree = max(degree, degrees[first] + degrees[second])
        lines.append(line)
        degrees.append(degree)
    return lines


class IsMaking(Case):

    def test_makings(self):
        for value in MAKINGS:
            self.assertIs(is_making(SOME, value), True, value)
            self.assertIs(is_making(value=value, makers=((0, 0, 1), (0, -1, 0, 1))), True)

    def test_no_makings(self):
        for value in NO_MAKING:
            self.assertIs(is_making(SOME, value), False, value)
        for value in NO_NUMBER:
            self.assertIs(is_making(SOME, [[(1, 1, value)]]), False)

    def test_positions_hang_on_makers(self):
        for many in range(1, 5):
            makers = [[0, 1]] * many
            self.assertIs(is_making(makers, [[(many, many, 1)]]), True)
            self.assertIs(is_making(makers, [[(many + 1, 0, 1)]]), False)
            self.assertIs(is_making(makers, [[], [(many + 1, 0, 1)]]), True)
            self.assertIs(is_making(makers, [[], [(many + 2, 0, 1)]]), False)

    def test_degrees(self):
        self.assertIs(is_making([[0, 1]], POWERS), True)
        self.assertEqual(made_by([[0, 1]], POWERS), ratios(*[0] * 96, 1))
        for last in [[(1, 96, 1)], [(1, 96, 1), (0, 0, 1)], [(50, 50, HALF)], [(96, 96, 1)]]:
            self.assertIs(is_making([[0, 1]], POWERS + [last]), False)
            self.assertIs(is_making([[0, 1]], POWERS + [last, []]), False)
        for last in [[(1, 96, 0)], [(1, 96, 1), (2, 95, -1)], [(96, 96, 1), (96, 96, -1), (96, 0, 1)], [(1, 95, 1)]]:
            self.assertIs(is_making([[0, 1]], POWERS + [last]), True)
        self.assertEqual(lines_by([[0, 1]], POWERS + [[(96, 96, 1), (96, 96, -1), (3, 0, 1)]])[-1], ratios(0, 0, 0, 1))
        seven = [[0] * 7 + [1]]
        lines = [[(1, 1, 1)], [(2, 2, 1)], [(3, 3, 1)], [(4, 3, 1)]]
        self.assertIs(is_making(seven, lines), True)
        self.assertIs(is_making(seven, lines + [[(5, 1, 1)]]), True)
        self.assertIs(is_making(seven, lines + [[(5, 2, 1)]]), False)
        self.assertIs(is_making(seven, lines + [[(5, 2, 1), (4, 4, -1), (3, 5, 1), (5, 3, -1)]]), False)

    def test_makers(self):
        for value in NO_MAKERS:
            self.fails(InvalidMakers, {"value": value}, is_making, value, FIVE)
            for function in [made_by, lines_by]:
                self.fails(InvalidMakers, {"value": value}, function, value, "no making")
            self.fails(InvalidMakers, {"value": value}, sum_making, value, "no", "no", "no")
            self.fails(InvalidMakers, {"value": value}, product_making, value, [], [])


class Worths(Case):

    def check(self, makers, making):
        found = self.unchanged(lines_by, makers, making)
        self.assertIs(type(found), list)
        for one in found:
            self.is_told(one)
        self.assertEqual([fractions(one) for one in found], worths(makers, making))
        self.assertEqual(self.unchanged(made_by, makers, making), found[-1])

    def test_by_hand(self):
        self.assertEqual(made_by(SOME, FIVE), ratios(0, -1, 0, 0, 0, 1))
        self.assertEqual(lines_by(SOME, [[], [(0, 0, 7)]]), [[], ratios(7)])
        self.assertEqual(lines_by(SOME, [*FIVE, [(3, 1, HALF), (0, 0, 2)]])[1], ratios(2, 0, 0, "-1/2", 0, 0, 0, "1/2"))
        self.assertEqual(made_by(making=[[]], makers=SOME), [])
        self.assertEqual(lines_by(makers=SOME, making=[[(1, 1, 0)]]), [[]])

    def test_some(self):
        for making in MAKINGS:
            self.check(SOME, making)

    def test_any(self):
        source = random.Random(31)
        for _ in range(60):
            makers = [[source.randint(-2, 2) for _ in range(source.randint(1, 5))] + [HALF] for _ in range(source.randint(1, 4))]
            self.check(makers, some_making(source, makers, source.randint(1, 8)))

    def test_wrong_values(self):
        for value in NO_MAKING:
            for function in [made_by, lines_by]:
                self.fails(InvalidMaking, {"value": value}, function, SOME, value)
                self.fails(InvalidMaking, {"value": value}, function, making=value, makers=SOME)


class PutTogether(Case):

    def test_sums(self):
        source = random.Random(32)
        for _ in range(40):
            makers = [[source.randint(-2, 2) for _ in range(source.randint(1, 3))] + [1] for _ in range(source.randint(1, 4))]
            one, other = [some_making(source, makers, source.randint(1, 5)) for _ in range(2)]
            for number in [0, 1, -2, Ratio(3, 5), Ratio(0)]:
                found = self.unchanged(sum_making, makers, one, other, number)
                self.assertIs(is_making(makers, found), True)
                self.assertLessEqual(len(found), len(one) + len(other) + 1)
                wanted = plus(made_by(makers, one), scaled(made_by(makers, other), number))
                self.assertEqual(made_by(makers, found), wanted)
            found = self.unchanged(product_making, makers, one, other)
            self.assertIs(is_making(makers, found), True)
            self.assertLessEqual(len(found), len(one) + len(other) + 1)
            first, second = made_by(makers, one), made_by(makers, other)
            self.assertEqual(fractions(made_by(makers, found)), product(fractions(first), fractions(second)))

    def test_form(self):
        for found in [
            sum_making(SOME, FIVE, ([(2, 0, 1)],), -1), product_making(SOME, ([], ((1, 1, 2),)), FIVE),
            sum_making(makers=SOME, making=FIVE, other=FIVE, number=0),
            product_making(makers=SOME, making=FIVE, other=[[(0, 0, 2)]]),
        ]:
            self.assertIs(type(found), list)
            for line in found:
                self.assertIs(type(line), list)
                for part in line:
                    self.assertEqual([type(one) for one in part], [int, int, Ratio])
                    self.assertIs(type(part), tuple)

    def test_by_hand(self):
        found = sum_making(SOME, FIVE, [[(2, 0, 1)]], -1)
        self.assertEqual(made_by(SOME, found), ratios(0, 0, 0, -1, 0, 1))
        found = product_making(SOME, FIVE, [[(0, 0, 2)]])
        self.assertEqual(made_by(SOME, found), ratios(0, -2, 0, 0, 0, 2))
        for other in [[[]], [[(1, 1, 0)]]]:
            self.assertEqual(made_by(SOME, product_making(SOME, FIVE, other)), [])
            self.assertEqual(made_by(SOME, sum_making(SOME, FIVE, other, 5)), made_by(SOME, FIVE))
            self.assertEqual(made_by(SOME, sum_making(SOME, other, FIVE, 0)), [])

    def test_lines(self):
        for first, second in [(99, 100), (1, 198), (198, 1)]:
            one, other = [[(1, 0, 1)]] * first, [[(2, 0, 1)]] * second
            for found, wanted in [
                (sum_making(SOME, one, other, 3), plus(SOME[0], scaled(SOME[1], 3))),
                (product_making(SOME, one, other), times(SOME[0], SOME[1])),
            ]:
                self.assertIs(is_making(SOME, found), True)
                self.assertLessEqual(len(found), 200)
                self.assertEqual(made_by(SOME, found), wanted)
        for first, second in [(100, 100), (199, 1), (1, 199), (200, 200)]:
            one, other = [[(1, 0, 1)]] * first, [[(2, 0, 1)]] * second
            self.fails(TooMany, {"what": "lines", "limit": 200}, sum_making, SOME, one, other, 3)
            self.fails(TooMany, {"what": "lines", "limit": 200}, product_making, SOME, one, other)

    def test_degree_of_products(self):
        one = [[0, 1]]
        for first, second in [(96, 0), (48, 48), (95, 1), (1, 95)]:
            makings = [POWERS[:many - 1] if many > 1 else [[(many, 0, 1)]] for many in (first, second)]
            found = product_making(one, *makings)
            self.assertIs(is_making(one, found), True)
            self.assertEqual(len(made_by(one, found)), 97)
        for first, second in [(96, 1), (48, 49), (96, 96), (90, 7)]:
            makings = [POWERS[:many - 1] if many > 1 else [[(many, 0, 1)]] for many in (first, second)]
            self.fails(TooMany, {"what": "degree", "limit": 96}, product_making, one, *makings)
            self.assertEqual(len(made_by(one, sum_making(one, *makings, 1))), max(first, second) + 1)
        self.assertEqual(made_by(one, product_making(one, POWERS, [[]])), [])
        self.fails(TooMany, {"what": "lines", "limit": 200}, product_making, one, POWERS, [[]] * 105 + POWERS)

    def test_wrong_values(self):
        long = [[(1, 0, 1)]] * 199
        for value in NO_MAKING:
            self.fails(InvalidMaking, {"value": value}, sum_making, SOME, value, "no", "no")
            self.fails(InvalidMaking, {"value": value}, sum_making, SOME, FIVE, value, "no")
            self.fails(InvalidMaking, {"value": value}, product_making, SOME, value, "no")
            self.fails(InvalidMaking, {"value": value}, product_making, SOME, long, value)
        for value in NO_NUMBER:
            self.fails(InvalidNumber, {"value": value}, sum_making, SOME, FIVE, FIVE, value)
            self.fails(InvalidNumber, {"value": value}, sum_making, SOME, long, long, number=value)


class Great(Case):

    def test_packed(self):
        source = random.Random(33)
        for size in [1, 2, 3, 7, 8, 97]:
            for bits in [1, 5, 200]:
                numbers = [source.randint(-2 ** bits + 1, 2 ** bits - 1) for _ in range(size)]
                found = unpacked(packed(numbers, bits + 2), bits + 2, size)
                self.assertEqual(found[:size], numbers)
                self.assertFalse(any(found[size:]))
        self.assertEqual(packed([], 9), 0)

    def test_two_hundred_long_lines(self):
        source = random.Random(34)
        makers = [[source.randint(-9, 9) for _ in range(size)] + [Ratio(1, 2)] for size in (7, 6, 5, 7)]
        degrees, lines = [0, 7, 6, 5, 7], []
        for _ in range(200):
            line, degree = [], 0
            while len(line) < 60:
                first, second = source.randrange(5), source.randrange(len(degrees))
                if degrees[first] + degrees[second] <= 96:
                    line.append((first, second, source.choice([1, -1, 2])))
                    degree = max(degree, degrees[first] + degrees[second])
            lines.append(line)
            degrees.append(degree)
        begun = time.monotonic()
        self.assertIs(is_making(makers, lines), True)
        self.assertLess(time.monotonic() - begun, 20)
        for at in [3, 60, 199]:
            two = lines_by(makers, lines[:at + 1])
            worth = sum(a * 3 ** k for k, a in enumerate(fractions(two[at])))
            ahead = [1] + [sum(a * 3 ** k for k, a in enumerate(fractions(one))) for one in makers + two[:at]]
            self.assertEqual(worth, sum(ahead[first] * ahead[second] * number for first, second, number in lines[at]))

    def test_great_fractions(self):
        source = random.Random(35)
        makers = [six_digits(source, degree) for degree in (7, 7, 6, 5)]
        lines = [[(1, 2, Ratio(123456, 654321)), (3, 4, -1)], [(5, 5, Ratio(1, 999999)), (5, 1, 3)], [(6, 6, 1), (6, 0, 2)]]
        self.assertEqual([fractions(one) for one in lines_by(makers, lines)], worths(makers, lines))


if __name__ == "__main__":
    unittest.main()
