"""Stops, weights, the times of the clock that are fractions, and crossings."""

from fromplaces.houses import check_house
from fromplaces.parts import common, whole_poly
from fromplaces.polys import derived, divided, worth
from fromplaces.ratios import Ratio, as_ratio, rising_places
from fromplaces.roots import fraction_roots
from fromplaces.times import place_of, times_at


def stop_part(house):
    """The common part of the slopes of the base, told."""
    check_house(house)
    shared = []
    for one in house.base():
        shared = common(shared, derived(one))
    return shared


def is_stop(house, number):
    """Whether the slopes of all polynomials of the base are 0 at the number."""
    check_house(house)
    at = as_ratio(number)
    return all([worth(derived(one), at).sign == 0 for one in house.base()])


def weight(house, number):
    """How often the number is a root of a polynomial of the base less its worth there, at the least."""
    # That is how often it is a root of their common part.
    shared = times_at(house, number)
    line = [-as_ratio(number), Ratio(1)]
    often = 0
    left, rest = divided(shared, line)
    while not rest:
        often += 1
        left, rest = divided(left, line)
    return often


def clock_times(house):
    """The sorted list of the roots of the clock that are fractions, each as (root, how often)."""
    check_house(house)
    found = [(Ratio(top, bottom), often) for top, bottom, often in fraction_roots(whole_poly(house.clock()))]
    return [found[place] for place in rising_places([root for root, _ in found])]


def crossings(house):
    """The sorted list of the crossings, each the sorted list of two or more times of the clock at one place."""
    lots = []
    for one, _ in clock_times(house):
        place = place_of(house, one)
        near = [lot for where, lot in lots if where == place]
        if near:
            near[0].append(one)
        else:
            lots.append((place, [one]))
    return [lot for _, lot in lots if len(lot) > 1]
