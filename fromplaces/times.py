"""The times at one place, plain times, bundles and their gaps, parted houses."""

from fromplaces.houses import check_house
from fromplaces.parts import common, part_with
from fromplaces.polys import divided, minus, told, worth
from fromplaces.ratios import as_ratio
from fromplaces.rooms import led_room


def times_at(house, number):
    """The polynomial, told, whose roots are the times at the place of the number."""
    check_house(house)
    at = as_ratio(number)
    shared = []
    for one in house.base():
        shared = common(shared, minus(one, [worth(one, at)]))
    return shared


def same_place(house, number, other):
    """Whether both numbers are at one place."""
    check_house(house)
    first = as_ratio(number)
    second = as_ratio(other)
    return place_of(house, first) == place_of(house, second)


def is_plain_time(house, number):
    """Whether the number is no root of the clock."""
    check_house(house)
    return worth(house.clock(), number).sign != 0


def bundle(house, number):
    """The part of the clock that has the roots at the place of the number, told."""
    shared = times_at(house, number)
    return part_with(house.clock(), shared)


def bundle_gaps(house, number):
    """How many gaps the bundle of the number has."""
    return factor_ties(house, bundle(house, number))


def is_parted(house, first):
    """Whether the polynomial divides the clock, without a common part with the quotient, and parts the house."""
    check_house(house)
    factor = told(first)
    if not factor:
        return False
    other, rest = divided(house.clock(), factor)
    if rest or len(common(factor, other)) > 1:
        return False
    # All that the room holds lies in what both rooms that it is led to hold together; this is just all that it
    # holds, and so the rest that is 1 and 0 is, exactly if there are as many ties.
    return factor_ties(house, factor) + factor_ties(house, other) == house.gap_count


def place_of(house, number):
    """The worths of the base at the number."""
    return [worth(one, number) for one in house.base()]


def factor_ties(house, factor):
    """The ties of the least room that holds the base, modulo a told divisor of the clock; none of a number."""
    if len(factor) < 2:
        return 0
    return led_room(house.room(), factor).ties
