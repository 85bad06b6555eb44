"""Rooms that keep polynomials apart from makers."""

from fromplaces.clockwork import clock_by
from fromplaces.counts import unmet
from fromplaces.errors import TooMany
from fromplaces.frames import Frame
from fromplaces.inner import outer_by
from fromplaces.lefts import left_of, lefts_of
from fromplaces.makers import told_makers
from fromplaces.polys import put_in, told
from fromplaces.ratios import Ratio, over_one_bottom
from fromplaces.rooms import GREATEST_CLOCK, Room

MOST_DEGREE = 24


def kept_apart(makers, poly):
    """A Room that keeps the polynomial apart from the makers, None if it is made of them."""
    known = told_makers(makers)
    first = told(poly)
    if len(first) - 1 > MOST_DEGREE:
        raise TooMany("degree", MOST_DEGREE)
    frame = Frame(known)
    inside = outer_by(first, frame.inner)
    if inside is None:
        return numbers_alone(frame.inner, first)
    leads = frame.core.leads
    tops, bottom = over_one_bottom(inside)
    if not left_of(tops, bottom, lefts_of(leads, len(tops) - 1))[0]:
        return None
    # All of whose multiples are made keeps apart what is not made, and no other polynomial of the inner part does.
    gaps, many, most = unmet(sorted(list(leads))), min(list(leads)), GREATEST_CLOCK // frame.step
    clock = clock_by(lefts_of(leads, most + many - 1), gaps, many, most)
    if clock is None:
        raise TooMany("clock", GREATEST_CLOCK)
    return Room(put_in(clock, frame.inner), known)


def is_kept_apart(makers, poly, value):
    """Whether the value is a Room that keeps the polynomial apart from the makers."""
    known = told_makers(makers)
    first = told(poly)
    if not isinstance(value, Room):
        return False
    return all([value.holds(one) for one in known]) and not value.holds(first)


def local_made(makers, poly, clock):
    """Whether the polynomial is made of the makers modulo the clock."""
    known = told_makers(makers)
    first = told(poly)
    return Room(clock, known).holds(first)


def numbers_alone(inner, poly):
    """The room of numbers alone modulo the inner part less a number that does not hold the told polynomial."""
    # It is no polynomial of the inner part, so that its rest is a number for few of these numbers alone.
    number = 0
    room = Room(inner, [])
    while room.holds(poly):
        number += 1
        room = Room([Ratio(-number), *inner[1:]], [])
    return room
