"""Houses moved, even houses, power houses."""

from fromplaces.basics import is_count, is_list
from fromplaces.errors import InvalidCounts, NoughtFirst
from fromplaces.houses import House, check_house, house_with
from fromplaces.lefts import lefts_of, taken_poly
from fromplaces.makers import GREATEST_DEGREE, MOST_MAKERS
from fromplaces.parts import whole_poly, with_head_one
from fromplaces.ratios import as_ratio, over_one_bottom
from fromplaces.wholes import whole_put_in


def moved(house, first, second):
    """The house of all f(a t + b), a and b the numbers, f held by the house: NoughtFirst if a is 0."""
    check_house(house)
    return moved_by(house, as_ratio(first), as_ratio(second))


def is_moved(house, other, first, second):
    """Whether the other house is the house moved by both numbers: NoughtFirst if the first one is 0."""
    check_house(house)
    check_house(other)
    return moved_by(house, as_ratio(first), as_ratio(second)) == other


def is_even(house):
    """Whether the degree of the clock is twice the number of the gaps."""
    check_house(house)
    return len(house.clock()) - 1 == 2 * house.gap_count


def power_house(counts):
    """The house that t to the powers of these counts make."""
    if not are_powers(counts):
        raise InvalidCounts(counts)
    return House([[0] * count + [1] for count in counts])


def is_power_house(house):
    """Whether each polynomial of the full base is a power of t."""
    check_house(house)
    return all([number.sign == 0 for one in house.base() for number in one[:-1]])


def moved_by(house, first, second):
    """The house moved by both Ratios: NoughtFirst if the first one is 0."""
    if first.sign == 0:
        raise NoughtFirst()
    tops, bottom = over_one_bottom([second, first])
    clock = with_head_one(whole_put_in(whole_poly(house.clock()), tops, bottom))
    leads = {len(one) - 1: whole_put_in(whole_poly(one), tops, bottom) for one in house.base()}
    least = sorted(list(leads))
    lefts = lefts_of(leads, max(least[-1], len(clock) - 2))
    base = [taken_poly(lefts, count) for count in least]
    return house_with(base, house.gaps(), clock, lefts)


def are_powers(value):
    """Whether the value is a list of 1 to 4 COUNTS from 1 to 7."""
    if not is_list(value) or len(value) < 1 or len(value) > MOST_MAKERS:
        return False
    return all([is_count(one) and 1 <= one <= GREATEST_DEGREE for one in value])
