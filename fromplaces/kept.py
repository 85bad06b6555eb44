"""Rooms that keep polynomials apart from makers."""

from fromplaces.clockwork import clock_by
from fromplaces.counts import met_table, unmet
from fromplaces.errors import TooMany
from fromplaces.frames import Frame
from fromplaces.houses import House
from fromplaces.inner import outer_by
from fromplaces.lefts import left_of, lefts_of
from fromplaces.makers import told_makers
from fromplaces.polys import put_in, told
from fromplaces.ratios import Ratio, over_one_bottom
from fromplaces.rooms import GREATEST_CLOCK, Room

MOST_DEGREE = 24


def kept_apart(makers, poly):
    """A Room that keeps the polynomial apart from the makers, None if it is made of them."""
    known = told_makers(makers)
    first = told(poly)
    if len(first) - 1 > MOST_DEGREE:
        raise TooMany("degree", MOST_DEGREE)
    frame = Frame(known)
    inside = outer_by(first, frame.inner)
    if inside is None:
        return numbers_alone(frame.inner, first)
    leads = frame.core.leads
    tops, bottom = over_one_bottom(inside)
    if not left_of(tops, bottom, lefts_of(leads, len(tops) - 1))[0]:
        return None
    # All of whose multiples are made keeps apart what is not made, and no other polynomial of the inner part does.
    clock = inner_clock(frame)
    if clock is None:
        raise TooMany("clock", GREATEST_CLOCK)
    return Room(put_in(clock, frame.inner), known)


def is_kept_apart(makers, poly, value):
    """Whether the value is a Room that keeps the polynomial apart from the makers."""
    known = told_makers(makers)
    first = told(poly)
    if not isinstance(value, Room):
        return False
    return all([value.holds(one) for one in known]) and not value.holds(first)


def local_made(makers, poly, clock):
    """Whether the polynomial is made of the makers modulo the clock."""
    known = told_makers(makers)
    first = told(poly)
    return Room(clock, known).holds(first)


def inner_clock(frame):
    """The clock of the makers told in the letter of their inner part; None if, of that, its degree is above 20."""
    leads = frame.core.leads
    gaps, many, most = unmet(sorted(list(leads))), min(list(leads)), GREATEST_CLOCK // frame.step
    return clock_by(lefts_of(leads, most + many - 1), gaps, many, most)


def gap_room(makers, count):
    """A Room that holds all makers, of a clock of a degree above the count, and nothing of this degree in it.

    None if something of this degree is made: TooMany where the House of the makers is, or the clock has above 20.
    """
    frame = Frame(told_makers(makers))
    if met_table(frame.least(), count)[count]:
        return None
    if frame.step == 1:
        return House(makers).room()
    clock = inner_clock(frame)
    if clock is None:
        raise TooMany("clock", GREATEST_CLOCK)
    # Modulo a multiple of this clock that is a polynomial of the inner part all that is in the room is made.
    often = max(count // frame.step + 1, len(clock) - 1)
    if often * frame.step > GREATEST_CLOCK:
        raise TooMany("clock", GREATEST_CLOCK)
    longer = [Ratio(0)] * (often - len(clock) + 1) + clock
    return Room(put_in(longer, frame.inner), makers)


def numbers_alone(inner, poly):
    """The room of numbers alone modulo the inner part less a number that does not hold the told polynomial."""
    # It is no polynomial of the inner part, so that its rest is a number for few of these numbers alone.
    number = 0
    room = Room(inner, [])
    while room.holds(poly):
        number += 1
        room = Room([Ratio(-number), *inner[1:]], [])
    return room
