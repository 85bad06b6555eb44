"""What several tests share: wrong values, and checks of errors, of results and of arguments."""

import copy
import unittest

from fromplaces.ratios import Ratio

# Values that are neither a NUMBER nor a list.
NO_KIND = [True, False, None, "", "1", "abc", b"1", {}, {1: 2}, {1, 2}, frozenset([1]), object(), int, len]
# Values that are no NUMBER.
NO_NUMBER = NO_KIND + [[], [1], (), (1, 2), [Ratio(1, 2)]]
# Values that are no polynomial.
NO_POLY = NO_KIND + [
    7, Ratio(1, 2), [True], [1, False], [0, "1"], [None], [[1]], [(1,)], (1, "2"), [1, 2, {}],
    [0] * 50, [1] * 50, (0,) * 50,
]
# Values that are no COUNT.
NO_COUNT = NO_KIND + [-1, -7, Ratio(3), Ratio(1, 2), [], [1], (1,)]
# Values that are no rows.
NO_ROWS = NO_KIND + [
    5, Ratio(1), [1], [1, 2], [[]], [[], []], [[1], [1, 2]], [[1, 2], [3]], [[True]], [[1, False]], [["1"]], [[None, 1]],
    ["12"], [[[1]]], [[1], 2], [2, [1]], [[1], None], ((1, 2), (1,)), [[1] * 61], [[1]] * 61, [{1: 2}], [{1}],
]
# Values that are no counts.
NO_COUNTS = NO_KIND + [
    3, Ratio(2), [], (), [0], [49], [-1], [True], [2, True], [2, False], [2, "3"], [2, None], [[2]], [Ratio(2)],
    [2, 0], [2, 49], [1] * 9, (1,) * 9, [2, 3, 4, 5, 6, 7, 8, 9, 10],
]


class Case(unittest.TestCase):
    """Checks that the tests of all files need."""

    def fails(self, error, attributes, function, *parts, **named):
        """The call raises just this error, with these attributes."""
        with self.assertRaises(error) as held:
            function(*parts, **named)
        self.assertIs(type(held.exception), error)
        self.assertEqual(list(vars(held.exception)), list(attributes))
        for name, value in attributes.items():
            self.alike(getattr(held.exception, name), value)

    def alike(self, one, two):
        """Both are the same, or equal and of one kind: True is not 1."""
        if one is not two:
            self.assertIs(type(one), type(two))
            self.assertEqual(one, two)

    def unchanged(self, function, *parts):
        """What the call returns; its arguments stay as they were, and calling again returns an equal, new result."""
        before = copy.deepcopy(parts)
        result = function(*parts)
        self.assertEqual(shown(parts), shown(before))
        again = function(*parts)
        self.assertEqual(shown(again), shown(result))
        for one in lists_in(result):
            self.assertFalse(any(one is other for other in lists_in(parts)))
            self.assertFalse(any(one is other for other in lists_in(again)))
        return result

    def is_told(self, poly):
        """It is a list of Ratios without a nought at its end."""
        self.assertIs(type(poly), list)
        for number in poly:
            self.assertIs(type(number), Ratio)
        if poly:
            self.assertNotEqual(poly[-1].sign, 0)

    def is_integers(self, values):
        """It is a list of INTEGERS."""
        self.assertIs(type(values), list)
        for value in values:
            self.assertIs(type(value), int)


def shown(value):
    """A text that tells bools, integers, tuples and lists apart."""
    return repr(value)


def lists_in(value):
    """All lists within the value, itself too."""
    if not isinstance(value, (list, tuple)):
        return []
    return ([value] if isinstance(value, list) else []) + [one for part in value for one in lists_in(part)]


def ratios(*numbers):
    """The numbers as a list of Ratios, noughts at the end too; strings as 3/2."""
    return [ratio(number) for number in numbers]


def ratio(number):
    """The number as a Ratio."""
    if isinstance(number, str):
        top, _, bottom = number.partition("/")
        return Ratio(int(top), int(bottom or 1))
    return Ratio(number) if isinstance(number, int) else number


# Values that are no makers.
NO_MAKERS = NO_KIND + [
    3, Ratio(2), [], (), [[]], [[1]], [[0, 0]], [[0, 1], []], [[0, 1], [7]], [[0, 1], 3], [0, 1], [Ratio(1), Ratio(2)],
    [[0, 1]] * 5, ([0, 1],) * 5, [[0] * 8 + [1]], [[0, 1], [0] * 48 + [1]], [[0, True]], [[0, 1], [False, 1]],
    [[0, "1"]], [[0, 1], "01"], [[0, 1], None], [[[0, 1]]], [{0: 1}], [[0, 1] + [0] * 48],
]
# Values that are no clock.
NO_CLOCK = NO_POLY + [[], [0], [3], (0, 0), [Ratio(1, 2), 0], [0] * 21 + [1], [0] * 48 + [1]]


def told_ratios(polys):
    """The polynomials, lists of numbers, as lists of Ratios."""
    return [ratios(*poly) for poly in polys]


def digits_of(numbers):
    """The most digits above or below a stroke."""
    return max([max(len(str(abs(one.top))), len(str(one.bottom))) for one in numbers], default=0)


def six_digits(source, degree):
    """A polynomial of this degree of fractions of six digits above and below the stroke."""
    return [Ratio(source.choice([-1, 1]) * source.randint(1, 999999), source.randint(1, 999999)) for _ in range(degree + 1)]


def small_makers(source, most=7):
    """Makers of small INTEGERS, some of them noughts."""
    found, greatest = [], source.choice([1, 2, 5])
    for _ in range(source.randint(1, 4)):
        numbers = [source.randint(-greatest, greatest) * source.randint(0, 1) for _ in range(source.randint(1, most))]
        found.append(numbers + [source.choice([-1, 1, 2])])
    return found
