"""Houses with clocks of all sorts, values that are no House, and slow reckoning, for the tests of times and moves."""

import random
from functools import cache

from fromplaces.bases import common_degree, met_counts
from fromplaces.counts import gaps
from fromplaces.errors import InvalidHouse, InvalidNumber
from fromplaces.houses import House
from fromplaces.polys import plus, times
from fromplaces.ratios import Ratio
from fromplaces.rooms import Room
from oracle import fractions, product
from support import NO_KIND, NO_NUMBER, small_makers

HALF = Ratio(1, 2)
CROSS, CUSP, ALL = [[0, 0, 1], [0, -1, 0, 1]], [[0, 0, 1], [0, 0, 0, 1]], [[0, 1]]
NO_HOUSE = NO_KIND + [
    5, HALF, [], CUSP, House, Room([-1, 0, 1], []), House(CUSP).base(), [House(CUSP)], (House(CUSP),), "House",
]


def of_clock(clock, more=(1, 0, 3)):
    """Makers that are multiples of the clock, but for numbers; of a clock of a degree to 4 these are its house."""
    return [plus(times(clock, [0] * at + [1]), [number]) for at, number in zip(range(9 - len(clock)), [*more, 5])]


def of_roots(first, last):
    """The polynomial with these whole roots."""
    found = [1]
    for root in range(first, last + 1):
        found = times(found, [-root, 1])
    return found


# Makers of houses, also with clocks with roots that are no fractions, with several bundles, and with stops.
MAKERS = [
    CROSS, CUSP, ALL, [[0, 0, 1], [0, 1, 1]], of_clock([0, -1, 0, 1]), of_clock([0, 0, -1, 1]), of_clock([1, 0, 1]),
    of_clock([-2, 0, 1]), of_clock([0, -2, 0, 1]), of_clock(times([HALF, 1], [-3, 0, 1])), of_clock([4, 0, -5, 0, 1]),
    of_clock([4, -12, 13, -6, 1]), of_clock([0, 0, 0, 1]), [[0, 0, 1], [0, 4, 0, -5, 0, 1]], [[0, 0, 1], [0, 0, 0, -2, 0, 1]],
    [[0, 0, 1], [0, 1, 0, 2, 0, 1]], [[0, 0, 0, 1], [0, 1, 0, 0, 1]], [[0, 0, 0, 0, 1], [0, 1, 1, 0, 0, 1]],
    [[0, 0, 0, 1], [0, 0, 0, 0, 1]], [[0, 0, 0, 1], [0] * 4 + [1], [0] * 5 + [1]], [[0] * 4 + [1], [0] * 6 + [1], [0, -1] + [0] * 5 + [1]],
    [[0] * 5 + [1], [0] * 6 + [1]], [[0, 0, 1], [0, -1] + [0] * 5 + [1]], [[0, 0, 1, 0, 1], [0, 1, 0, 3]],
    [[0, -3, 0, 1], [0, 0, 0, 0, 1]], [[0, 0, -2, 0, 1], [0, 0, 0, -1, 0, 1]], [[0, 2, -3, 1], [0, 0, 4, -4, 1]],
]
NUMBERS = [0, 1, -1, 2, -2, 3, HALF, -HALF, Ratio(7, 3), Ratio(1), Ratio(123456, 654321), -5]


@cache
def some_makers():
    """Makers of houses with at most 10 gaps."""
    source = random.Random(700)
    found = list(MAKERS)
    while len(found) < 60:
        makers = small_makers(source)
        if common_degree(makers) == 1 and 0 < len(gaps(met_counts(makers))) <= 10:
            found.append(makers)
    return found


@cache
def some_houses():
    """Their houses."""
    return [House(makers) for makers in some_makers()]


def worth_at(poly, number):
    """The worth, as a Fraction, power by power."""
    at = fractions([number])[0] if fractions([number]) else 0
    return sum([one * at ** power for power, one in enumerate(fractions(poly))], 0 * at)


def greatest_common(polys):
    """The common part of polynomials of Fractions, its head 1."""
    found = []
    for one in polys:
        other = list(one)
        while other:
            left = list(found)
            while left and len(left) >= len(other):
                part = left[-1] / other[-1]
                for at, number in enumerate(other):
                    left[len(left) - len(other) + at] -= part * number
                while left and left[-1] == 0:
                    left.pop()
            found, other = other, left
    return [one / found[-1] for one in found] if found else []


def less_worth(poly, number):
    """The polynomial less its worth at the number, of Fractions."""
    found = fractions(poly)
    if not found:
        return []
    found[0] -= worth_at(poly, number)
    while found and found[-1] == 0:
        found.pop()
    return found


def slopes(poly):
    """The derived polynomial, of Fractions."""
    return [power * one for power, one in enumerate(fractions(poly))][1:]


def powers_of(poly, often):
    """The polynomial times itself, so often, of Fractions."""
    found = fractions([1])
    for _ in range(often):
        found = product(found, fractions(poly))
    return found


def check_house_first(case, function, *rest, **named):
    """The house is looked at ahead of all else."""
    for value in NO_HOUSE:
        case.fails(InvalidHouse, {"value": value}, function, value, *rest)
        case.fails(InvalidHouse, {"value": value}, function, house=value, **named)


def check_numbers(case, function, *ahead, **named):
    """The last parameter is a number, named so as the last of the names tells."""
    name = list(named)[-1]
    for value in NO_NUMBER:
        case.fails(InvalidNumber, {"value": value}, function, *ahead, value)
        case.fails(InvalidNumber, {"value": value}, function, **{**named, name: value})
