"""Houses joined and met, one house within another one, lone polynomials."""

from fromplaces.clocks import house_of
from fromplaces.errors import TooMany
from fromplaces.houses import MOST_GAPS, House, check_house
from fromplaces.parts import common, multiple
from fromplaces.polys import degree, is_poly
from fromplaces.ratios import Ratio
from fromplaces.rests import Rows
from fromplaces.rooms import headed_rows, led_room, room_with, sum_room
from fromplaces.solved import kernel

MOST_LONE = 24


def joined(house, other):
    """The house of all sums of products of polynomials of both houses."""
    check_house(house)
    check_house(other)
    # All multiples of both clocks are in it, so all multiples of their common part.
    shared = common(house.clock(), other.clock())
    if len(shared) < 2:
        return House([[0, 1]])
    return house_of(sum_room(led_room(house.room(), shared), led_room(other.room(), shared)))


def met_house(house, other):
    """The house of all polynomials that both houses hold: TooMany if it has above 10 gaps."""
    check_house(house)
    check_house(other)
    clock = multiple(house.clock(), other.clock())
    wide = len(clock) - 1
    if wide == 0:
        return House([[0, 1]])
    # This is its clock, whose degree is at most twice the number of gaps.
    if wide > 2 * MOST_GAPS:
        raise TooMany("gaps", MOST_GAPS)
    rows = kernel(gap_rows(house, wide) + gap_rows(other, wide), wide)
    if wide - len(rows) > MOST_GAPS:
        raise TooMany("gaps", MOST_GAPS)
    return house_of(room_with(clock, Rows(headed_rows(rows), wide)))


def is_within(house, other):
    """Whether the other house holds all that the house holds."""
    return lone(house, other) is None


def lone(house, other):
    """A polynomial of the full base that the other house does not hold, None if it holds all of them."""
    check_house(house)
    check_house(other)
    for one in house.base():
        if not other.holds(one):
            return one
    return None


def is_lone(house, other, value):
    """Whether the value is a polynomial of a degree to 24 that the house holds and the other one does not."""
    check_house(house)
    check_house(other)
    if not is_poly(value) or degree(value) > MOST_LONE:
        return False
    return house.holds(value) and not other.holds(value)


def gap_rows(house, wide):
    """The rows, one for each gap, that lead the row of what the house holds, of a degree below wide, each to 0."""
    lefts = [house.left([0] * power + [1]) for power in range(wide - 1, -1, -1)]
    return [[number_at(left, gap) for left in lefts] for gap in house.gaps()]


def number_at(poly, power):
    """The number at this power of a told polynomial."""
    return poly[power] if power < len(poly) else Ratio(0)
