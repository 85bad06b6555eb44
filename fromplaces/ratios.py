"""Fractions of INTEGERS in lowest terms, and lists of them over one bottom."""

from math import gcd, lcm

from fromplaces.basics import is_integer, is_list
from fromplaces.errors import DividedByZero, InvalidNumber


class Ratio:
    """A fraction in lowest terms, its bottom at least 1. It never changes."""

    def __init__(self, top, bottom=1):
        if not is_integer(top):
            raise InvalidNumber(top)
        if not is_integer(bottom) or bottom == 0:
            raise InvalidNumber(bottom)
        shared = gcd(top, bottom)
        if bottom < 0:
            shared = -shared
        self._top = top // shared
        self._bottom = bottom // shared

    @property
    def top(self):
        """The INTEGER above the stroke, with the sign."""
        return self._top

    @property
    def bottom(self):
        """The INTEGER below the stroke, at least 1."""
        return self._bottom

    @property
    def sign(self):
        """-1, 0 or 1."""
        if self._top < 0:
            return -1
        return 1 if self._top > 0 else 0

    @property
    def is_whole(self):
        """Whether the bottom is 1."""
        return self._bottom == 1

    def __add__(self, other):
        more = as_ratio(other)
        return Ratio(self._top * more.bottom + more.top * self._bottom, self._bottom * more.bottom)

    def __radd__(self, other):
        return as_ratio(other) + self

    def __sub__(self, other):
        less = as_ratio(other)
        return Ratio(self._top * less.bottom - less.top * self._bottom, self._bottom * less.bottom)

    def __rsub__(self, other):
        return as_ratio(other) - self

    def __mul__(self, other):
        by = as_ratio(other)
        return Ratio(self._top * by.top, self._bottom * by.bottom)

    def __rmul__(self, other):
        return as_ratio(other) * self

    def __neg__(self):
        return Ratio(-self._top, self._bottom)

    def over(self, other):
        """This one divided by a NUMBER."""
        by = as_ratio(other)
        if by.sign == 0:
            raise DividedByZero()
        return Ratio(self._top * by.bottom, self._bottom * by.top)

    def size(self):
        """This one without its sign."""
        return Ratio(abs(self._top), self._bottom)

    def is_below(self, other):
        """Whether this one is less than a NUMBER."""
        than = as_ratio(other)
        return self._top * than.bottom < than.top * self._bottom

    def is_at_most(self, other):
        """Whether this one is not greater than a NUMBER."""
        than = as_ratio(other)
        return self._top * than.bottom <= than.top * self._bottom

    @classmethod
    def total(cls, numbers):
        """The sum of a list of NUMBERS."""
        if not is_list(numbers):
            raise InvalidNumber(numbers)
        tops, bottom = over_one_bottom(numbers)
        return cls(sum(tops), bottom)

    def __eq__(self, other):
        return isinstance(other, Ratio) and self._top == other._top and self._bottom == other._bottom

    def __str__(self):
        if self._bottom == 1:
            return str(self._top)
        return f"{self._top}/{self._bottom}"

    def __repr__(self):
        return f"Ratio({self._top}, {self._bottom})"


def is_number(value):
    """Whether the value is a NUMBER: an INTEGER or a Ratio."""
    return is_integer(value) or isinstance(value, Ratio)


def as_ratio(number):
    """The NUMBER as a Ratio: InvalidNumber for any other value."""
    if isinstance(number, Ratio):
        return number
    return Ratio(number)


def over_one_bottom(numbers):
    """The tuple (tops, bottom): the NUMBERS as INTEGERS over one bottom, the least that serves."""
    fractions = [as_ratio(number) for number in numbers]
    bottom = 1
    for fraction in fractions:
        bottom = lcm(bottom, fraction.bottom)
    return [fraction.top * (bottom // fraction.bottom) for fraction in fractions], bottom


def rising_places(numbers):
    """The places of the NUMBERS, those of lesser ones first."""
    tops, _ = over_one_bottom(numbers)
    return [at for _, at in sorted([(top, place) for place, top in enumerate(tops)])]
