"""[17] and [18]: rows in steps, kernels, solutions."""

import random
import unittest
from fractions import Fraction

from fromplaces.errors import InvalidGoals, InvalidMany, InvalidRows
from fromplaces.ratios import Ratio
from fromplaces.solved import is_solution, kernel, solution, steps
from support import NO_COUNT, NO_KIND, NO_NUMBER, NO_ROWS, Case, ratio, ratios

HALF = Ratio(1, 2)
SOME = [
    [[1]], [[0]], [[HALF, 3]], ((0, 0, 0), (0, 0, 0)), [[0, 2, 4], [0, 3, 6]], [[1, 2], [3, 4], [5, 6]],
    [[1, 1, 0], [0, 1, 1], [1, 2, 1]], ([0, 0, HALF, 1], (0, Ratio(-2, 3), 0, 0)), [[1, 2, 3, 4, 5]],
    [[2, 4, -2, 0], [1, 2, 0, HALF], [0, 0, 1, HALF], [3, 6, -2, HALF]],
]


def by_hand(rows):
    """The steps of rows of Fractions, by elimination as it stands in books."""
    rows, top = [list(row) for row in rows], 0
    for at in range(len(rows[0]) if rows else 0):
        place = next((k for k in range(top, len(rows)) if rows[k][at] != 0), None)
        if place is None:
            continue
        rows[top], rows[place] = rows[place], rows[top]
        rows[top] = [one / rows[top][at] for one in rows[top]]
        for k, row in enumerate(rows):
            if k != top and row[at] != 0:
                rows[k] = [one - row[at] * two for one, two in zip(row, rows[top])]
        top += 1
    return rows[:top]


def fractions(rows):
    return [[Fraction(ratio(one).top, ratio(one).bottom) for one in row] for row in rows]


def led(row, numbers):
    return Ratio.total([one * two for one, two in zip(row, numbers)])


def some_rows(source, many, wide, bottoms=(1, 1, 2, 3), least=-3, most=3):
    return [[Ratio(source.randint(least, most), source.choice(bottoms)) for _ in range(wide)] for _ in range(many)]


class WrongValues(Case):

    def test_rows(self):
        for value in NO_ROWS:
            self.fails(InvalidRows, {"value": value}, steps, value)
            self.fails(InvalidRows, {"value": value}, steps, rows=value)
            self.fails(InvalidRows, {"value": value}, kernel, value, "later")
            self.fails(InvalidRows, {"value": value}, kernel, value, 0)
            self.fails(InvalidRows, {"value": value}, solution, value, "later")
            self.fails(InvalidRows, {"value": value}, is_solution, value, "later", [1])

    def test_sizes(self):
        self.assertEqual(len(steps([[1] * 60] * 60)), 1)
        self.assertEqual(len(kernel([[1] * 60] * 60, 60)), 59)
        for value in [[[1] * 61], [[1]] * 61, [[1] * 61] * 61, [[]]]:
            self.fails(InvalidRows, {"value": value}, steps, value)

    def test_width(self):
        for value in NO_COUNT + [0, 61, 10 ** 20]:
            self.fails(InvalidMany, {"value": value}, kernel, [], value)
            self.fails(InvalidMany, {"value": value}, kernel, [[1, 2]], value)
            self.fails(InvalidMany, {"value": value}, kernel, rows=[[1]], wide=value)
        for rows, wide in [([[1, 2]], 1), ([[1, 2]], 3), ([[1]], 60), (((1, 2), (3, 4)), 4)]:
            self.fails(InvalidRows, {"value": rows}, kernel, rows, wide)

    def test_no_rows_for_solutions(self):
        for rows in [[], ()]:
            for goals in [[], [1], "later"]:
                self.fails(InvalidRows, {"value": rows}, solution, rows, goals)
                self.fails(InvalidRows, {"value": rows}, is_solution, rows, goals, [])

    def test_goals(self):
        wrong = NO_KIND + [5, HALF, [], [1], [1, 2, 3], (1,), [1, True], [None, 1], [1, "2"], [[1], [2]], [[1, 2]]]
        for value in wrong:
            self.fails(InvalidGoals, {"value": value}, solution, [[1], [2]], value)
            self.fails(InvalidGoals, {"value": value}, is_solution, [[1], [2]], value, "any")
            self.fails(InvalidGoals, {"value": value}, solution, goals=value, rows=((1,), (2,)))


class Steps(Case):

    def test_steps(self):
        for rows in SOME:
            found = self.unchanged(steps, rows)
            self.assertEqual(fractions(found), by_hand(fractions(rows)))
            self.assertEqual(steps(found), found)
            self.assertEqual({type(row) for row in found} - {list}, set())
            self.assertEqual({type(one) for row in found for one in row} - {Ratio}, set())

    def test_no_rows_and_noughts(self):
        for rows in [[], (), [[0]], [[0, Ratio(0)]], [[0] * 60] * 60]:
            self.assertEqual(steps(rows), [])

    def test_by_hand(self):
        self.assertEqual(steps([[0, 2, 4], [0, 3, 6]]), [ratios(0, 1, 2)])
        self.assertEqual(steps(rows=[[HALF, 1], [1, 3]]), [ratios(1, 0), ratios(0, 1)])
        self.assertEqual(steps([[0, 0, 1], [Ratio(2, 3), 1, 1]]), [ratios(1, "3/2", 0), ratios(0, 0, 1)])
        self.assertEqual(steps([[1, 2, 3], [4, 5, 6], [7, 8, 9]]), [ratios(1, 0, -1), ratios(0, 1, 2)])

    def test_any_rows(self):
        source = random.Random(21)
        for _ in range(150):
            many, wide = source.randint(1, 6), source.randint(1, 6)
            rows = some_rows(source, many, wide)
            if many > 2:
                rows[-1] = [one - two for one, two in zip(rows[0], rows[1])]
            self.assertEqual(fractions(steps(rows)), by_hand(fractions(rows)))

    def test_numbers_that_are_noughts_modulo_great_primes(self):
        for bits in [521, 1279]:
            prime = 2 ** bits - 1
            self.assertEqual(steps([[prime, 1]]), [[Ratio(1), Ratio(1, prime)]])
            self.assertEqual(steps([[1, prime], [1, 0]]), [ratios(1, 0), ratios(0, 1)])
            self.assertEqual(steps([[1, Ratio(1, prime)]]), [[Ratio(1), Ratio(1, prime)]])
            self.assertEqual(kernel([[prime, 1]], 2), [[Ratio(1), Ratio(-prime)]])


class Kernel(Case):

    def check(self, rows, wide):
        found = self.unchanged(kernel, rows, wide)
        self.assertEqual(found, steps(found))
        self.assertEqual(len(found) + len(steps(rows)), wide)
        for one in found:
            for row in rows:
                self.assertEqual(led(row, one), Ratio(0))

    def test_kernels(self):
        for rows in SOME:
            self.check(rows, len(rows[0]))

    def test_by_hand(self):
        self.assertEqual(kernel([[1, 2]], 2), [ratios(1, "-1/2")])
        self.assertEqual(kernel([[5]], 1), [])
        self.assertEqual(kernel([[0]], 1), [ratios(1)])
        self.assertEqual(kernel(wide=3, rows=[[1, 1, 1]]), [ratios(1, 0, -1), ratios(0, 1, -1)])
        self.assertEqual(kernel([[0, 1, 0]], 3), [ratios(1, 0, 0), ratios(0, 0, 1)])

    def test_of_no_rows(self):
        for none in [[], ()]:
            for wide in [1, 2, 60]:
                found = kernel(none, wide)
                self.assertEqual(found, [ratios(*[int(k == at) for k in range(wide)]) for at in range(wide)])

    def test_any_rows(self):
        source = random.Random(22)
        for _ in range(100):
            wide = source.randint(1, 7)
            self.check(some_rows(source, source.randint(0, 6), wide), wide)


class Solutions(Case):

    def check(self, rows, goals):
        found = self.unchanged(solution, rows, goals)
        made = by_hand(fractions([[*row, goal] for row, goal in zip(rows, goals)]))
        if any(not any(row[:-1]) for row in made):
            self.assertIsNone(found)
            return
        self.assertIs(type(found), list)
        self.assertEqual([type(one) for one in found], [Ratio] * len(rows[0]))
        self.assertEqual([led(row, found) for row in rows], [ratio(goal) for goal in goals])
        self.assertIs(is_solution(rows, goals, found), True)
        for more in kernel(rows, len(rows[0])):
            self.assertIs(is_solution(rows, goals, [one + two for one, two in zip(found, more)]), True)

    def test_solutions(self):
        for rows in SOME:
            self.check(rows, [0] * len(rows))
            self.check(rows, tuple(range(1, len(rows) + 1)))
            self.check(rows, [led(row, range(1, len(row) + 1)) for row in rows])

    def test_by_hand(self):
        self.assertEqual(solution([[1, 1], [1, -1]], [3, 1]), ratios(2, 1))
        self.assertEqual(solution(goals=(HALF,), rows=((2,),)), ratios("1/4"))
        self.assertIsNone(solution([[1, 1], [2, 2]], [1, 3]))
        self.assertIsNone(solution([[0, 0]], [1]))
        self.assertEqual(solution([[0, 0]], [0])[:0], [])
        self.assertIsNone(solution([[1], [1]], [1, 2]))

    def test_any_rows(self):
        source = random.Random(23)
        for _ in range(150):
            rows = some_rows(source, source.randint(1, 5), source.randint(1, 5))
            goals = [Ratio(source.randint(-3, 3), source.choice([1, 2])) for _ in rows]
            self.check(rows, goals)
            self.check(rows, [led(row, goals + [1] * 5) for row in rows])

    def test_is_solution_of_any_value(self):
        rows, goals = [[1, 1], [2, 2]], [HALF, 1]
        for value in [[HALF, 0], (0, HALF), [Ratio(5), Ratio(-9, 2)], [1, -HALF]]:
            self.assertIs(is_solution(rows, goals, value), True)
        wrong = NO_KIND + [
            HALF, 1, [], [HALF], [HALF, 0, 0], [0, 0], [1, 1], [HALF, False], ["1", "2"], [None, HALF], [[HALF, 0]],
            [[HALF], [0]],
        ]
        for value in wrong:
            self.assertIs(is_solution(rows, goals, value), False, value)
        for value in NO_NUMBER:
            self.assertIs(is_solution([[0, 1]], [1], [value, 1]), False)
        self.assertIs(is_solution([[1]], [1], [True]), False)
        self.assertIs(is_solution([[0]], [0], [0]), True)
        self.assertIs(is_solution([[0]], [1], [0]), False)
        self.assertIs(is_solution(value=(1,), goals=[2], rows=[[2]]), True)


class GreatRows(Case):

    def test_all_numbers_are_made(self):
        source = random.Random(24)
        rows = some_rows(source, 60, 60, range(1, 1000000), -999999, 999999)
        self.assertEqual(steps(rows), [ratios(*[int(k == at) for k in range(60)]) for at in range(60)])
        self.assertEqual(kernel(rows, 60), [])

    def test_sixty_by_sixty(self):
        source = random.Random(25)
        rows = some_rows(source, 60, 60, range(1, 10), -9, 9)
        rows[7] = [one + two * HALF for one, two in zip(rows[50], rows[9])]
        found = kernel(rows, 60)
        self.assertEqual(len(found), 1)
        self.assertEqual([led(row, found[0]) for row in rows], [Ratio(0)] * 60)
        self.assertEqual(len(steps(rows)), 59)
        goals = [led(row, range(60)) for row in rows]
        made = solution(rows, goals)
        self.assertIs(is_solution(rows, goals, made), True)
        self.assertIs(is_solution(rows, goals, list(range(60))), True)
        self.assertIs(is_solution(rows, goals, [one * 2 for one in made]), False)
        goals[7] = goals[7] + 1
        self.assertIsNone(solution(rows, goals))

    def test_one_solution_of_sixty(self):
        source = random.Random(26)
        rows = some_rows(source, 60, 60, range(1, 20), -20, 20)
        goals = [Ratio(source.randint(-9, 9), 7) for _ in rows]
        self.assertIs(is_solution(rows, goals, solution(rows, goals)), True)

    def test_few_rows_of_great_fractions(self):
        source = random.Random(27)
        rows = some_rows(source, 6, 60, range(1, 1000000), -999999, 999999)
        found = steps(rows)
        self.assertEqual(fractions(found), by_hand(fractions(rows)))
        self.assertEqual(len(kernel(rows, 60)), 54)


if __name__ == "__main__":
    unittest.main()
