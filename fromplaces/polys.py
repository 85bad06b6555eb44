"""Polynomials, lists of numbers by rising powers: reckoned, put in, derived and divided."""

from fromplaces.basics import is_list
from fromplaces.errors import InvalidPoly, NoughtPoly, TooMany
from fromplaces.ratios import Ratio, as_ratio, is_number, over_one_bottom
from fromplaces.wholes import whole_product

MOST_DEGREE = 48


def is_poly(value):
    """Whether the value is a polynomial: a list of 0 to 49 NUMBERS."""
    return is_list(value) and len(value) <= MOST_DEGREE + 1 and all([is_number(one) for one in value])


def told(poly):
    """The polynomial as a list of Ratios without a nought at its end."""
    if not is_poly(poly):
        raise InvalidPoly(poly)
    return trimmed([as_ratio(number) for number in poly])


def degree(poly):
    """The position of the last number that is not 0, -1 of nought."""
    return len(told(poly)) - 1


def plus(poly, other):
    """The sum, told."""
    return added(told(poly), told(other))


def minus(poly, other):
    """The difference, told."""
    return added(told(poly), [-number for number in told(other)])


def scaled(poly, number):
    """The polynomial times the number, told."""
    first = told(poly)
    by = as_ratio(number)
    return trimmed([one * by for one in first])


def times(poly, other):
    """The product, told: TooMany if its degree is above 48."""
    first = told(poly)
    second = told(other)
    if first and second and len(first) + len(second) - 2 > MOST_DEGREE:
        raise TooMany("degree", MOST_DEGREE)
    return multiplied(first, second)


def put_in(poly, other):
    """The first polynomial with the other one in the place of t, told: TooMany if its degree might be above 48."""
    first = told(poly)
    second = told(other)
    if max(len(first) - 1, 0) * max(len(second) - 1, 0) > MOST_DEGREE:
        raise TooMany("degree", MOST_DEGREE)
    found = []
    for number in first[::-1]:
        found = added(multiplied(found, second), [number])
    return found


def worth(poly, number):
    """What the polynomial comes to with the number in the place of t."""
    first = told(poly)
    at = as_ratio(number)
    found = Ratio(0)
    for one in first[::-1]:
        found = found * at + one
    return found


def derived(poly):
    """The derived polynomial, told."""
    return [number * power for power, number in enumerate(told(poly))][1:]


def divided(poly, other):
    """The tuple (quotient, rest), told: NoughtPoly if the other one is nought."""
    first = told(poly)
    second = told(other)
    if not second:
        raise NoughtPoly()
    return quotient_and_rest(first, second)


def trimmed(numbers):
    """The list of Ratios without the noughts at its end."""
    size = len(numbers)
    while size > 0 and numbers[size - 1].sign == 0:
        size -= 1
    return numbers[:size]


def added(first, second):
    """The sum of two lists of Ratios, told."""
    sums = [one + two for one, two in zip(first, second)]
    # One of these two is empty: what the longer one has beyond the shorter one.
    return trimmed(sums + first[len(second):] + second[len(first):])


def multiplied(first, second):
    """The product of two told polynomials, of whatever degree."""
    if not first or not second:
        return []
    first_tops, first_bottom = over_one_bottom(first)
    second_tops, second_bottom = over_one_bottom(second)
    bottom = first_bottom * second_bottom
    return [Ratio(top, bottom) for top in whole_product(first_tops, second_tops)]


def quotient_and_rest(first, second):
    """The first told polynomial divided by the second one, not nought."""
    quotient, rest = [], first
    while len(rest) >= len(second):
        part = rest[-1].over(second[-1])
        place = len(rest) - len(second)
        high = [one - part * two for one, two in zip(rest[place:], second)]
        rest = rest[:place] + high[:-1]
        quotient.append(part)
    return quotient[::-1], trimmed(rest)
