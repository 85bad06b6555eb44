"""Clocks of houses, and the houses of rooms."""

from fromplaces.clockwork import clock_by
from fromplaces.counts import least_of
from fromplaces.errors import TooMany
from fromplaces.houses import MOST_GAPS, check_house, house_with
from fromplaces.lefts import left_of, taken_poly
from fromplaces.polys import is_poly, told
from fromplaces.ratios import over_one_bottom
from fromplaces.rests import whole_rest
from fromplaces.rooms import check_room, whole_clock
from fromplaces.wholes import lowest, without_noughts


def house_of(room):
    """The house of all that the room holds: TooMany if the room has more than 10 ties."""
    check_room(room)
    if room.ties > MOST_GAPS:
        raise TooMany("gaps", MOST_GAPS)
    wide = len(room.clock()) - 1
    lefts = room_lefts(room, 2 * wide)
    gaps = room_gaps(room)
    least = least_of([power for power in range(1, len(lefts)) if power not in gaps])
    base = [taken_poly(lefts, power) for power in least]
    return house_with(base, gaps, room_clock(room, lefts), lefts)


def is_clock_of(house, value):
    """Whether the value is a polynomial, not nought, all of whose multiples the house holds."""
    check_house(house)
    if not is_poly(value) or not told(value):
        return False
    rest, _ = whole_rest(over_one_bottom(told(value)), whole_clock(house.clock()))
    return rest == []


def least_clock(room):
    """The clock of the house of the room, told."""
    check_room(room)
    return room_clock(room, room_lefts(room, 2 * len(room.clock())))


def room_gaps(room):
    """The powers that nothing has that the room holds, rising."""
    heads = room.heads()
    return [power for power in range(len(room.clock()) - 1) if power not in heads]


def room_clock(room, lefts):
    """The clock of the house of the room, by what is left of the powers of t."""
    gaps = room_gaps(room)
    wide = len(room.clock()) - 1
    many = [power for power in range(1, wide + 1) if power not in gaps][0]
    most = min(wide, 2 * len(gaps))
    return clock_by(lefts[:most + many], gaps, many, most)


def room_lefts(room, last):
    """The list of what the room leaves of each power of t, to the last one, as (tops, bottom)."""
    clock = whole_clock(room.clock())
    made = dict(zip(room.heads(), room.rows()[::-1]))
    lefts = []
    for power in range(len(clock) - 1):
        if power in made:
            tops, bottom = over_one_bottom(made[power][::-1])
            lefts.append(lowest(without_noughts([-top for top in tops[:power]]), bottom))
        else:
            lefts.append(([0] * power + [1], 1))
    rest = ([0] * (len(clock) - 2) + [1], 1)
    while len(lefts) <= last:
        rest = whole_rest(([0] + rest[0], rest[1]), clock)
        lefts.append(left_of(rest[0], rest[1], lefts))
    return lefts
