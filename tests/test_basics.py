"""[2]: which values are INTEGERS, COUNTS and NUMBERS."""

import unittest

from fromplaces.basics import is_count, is_integer
from fromplaces.ratios import Ratio, is_number
from support import NO_NUMBER, Case


class Kinds(Case):

    def test_integers(self):
        for value in [0, 1, -1, 7, -10 ** 30, 10 ** 200]:
            self.assertIs(is_integer(value), True)
            self.assertIs(is_integer(value=value), True)
        for value in NO_NUMBER + [Ratio(1), Ratio(0)]:
            self.assertIs(is_integer(value), False, value)

    def test_counts(self):
        for value in [0, 1, 2, 10 ** 30]:
            self.assertIs(is_count(value), True)
            self.assertIs(is_count(value=value), True)
        for value in NO_NUMBER + [-1, -10 ** 30, Ratio(1), Ratio(0)]:
            self.assertIs(is_count(value), False, value)

    def test_numbers(self):
        for value in [0, 5, -5, 10 ** 40, Ratio(1, 2), Ratio(0), Ratio(-4)]:
            self.assertIs(is_number(value), True)
            self.assertIs(is_number(value=value), True)
        for value in NO_NUMBER:
            self.assertIs(is_number(value), False, value)


if __name__ == "__main__":
    unittest.main()
