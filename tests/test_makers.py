"""[6] and [31]: makers, told, and their degrees."""

import unittest

from fromplaces.errors import InvalidMakers
from fromplaces.makers import degrees, is_makers, told_makers
from fromplaces.ratios import Ratio
from support import NO_MAKERS, Case, ratios

SOME = [
    [[0, 1]], [[0] * 7 + [1]], ([1, 2], (3, 4)), [[0, 0, 1], (0, -1, 0, 1, 0)], [[0, 1]] * 4, ((0, 1),) * 4,
    [[Ratio(1, 2), Ratio(-3, 4)]], [[0, 1] + [0] * 47], [[0] * 7 + [Ratio(5)] + [0] * 41],
    [[1, 0, 2], [0, 0, 0, 0, 1], [0, 0, 0, 0, 0, 0, 1], [3, 1]],
]


class Makers(Case):

    def test_is_makers(self):
        for value in SOME:
            self.assertIs(is_makers(value), True, value)
        for value in NO_MAKERS:
            self.assertIs(is_makers(value), False, value)
        self.assertIs(is_makers(value=[[0, 1]]), True)

    def test_told(self):
        for makers in SOME:
            found = self.unchanged(told_makers, makers)
            self.assertIs(type(found), list)
            self.assertEqual(len(found), len(makers))
            for one in found:
                self.is_told(one)
        self.assertEqual(told_makers([[0, 0, 1], (0, -1, 0, 1, 0)]), [ratios(0, 0, 1), ratios(0, -1, 0, 1)])
        self.assertEqual(told_makers(makers=([Ratio(1, 2), 2],)), [ratios("1/2", 2)])

    def test_degrees(self):
        for makers in SOME:
            found = self.unchanged(degrees, makers)
            self.is_integers(found)
            self.assertEqual(found, [len(one) - 1 for one in told_makers(makers)])
        self.assertEqual(degrees([[0, 0, 1], (0, -1, 0, 1, 0), [1, 1]]), [2, 3, 1])
        self.assertEqual(degrees(makers=[[0] * 7 + [1] + [0] * 41]), [7])

    def test_wrong_values(self):
        for value in NO_MAKERS:
            for function in [told_makers, degrees]:
                self.fails(InvalidMakers, {"value": value}, function, value)
                self.fails(InvalidMakers, {"value": value}, function, makers=value)


if __name__ == "__main__":
    unittest.main()
