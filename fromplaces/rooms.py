"""Rooms: polynomials that lie together modulo a clock."""

from fromplaces.basics import is_list
from fromplaces.errors import InvalidClock, InvalidPolys, InvalidRoom, InvalidRows, NotDivided, UnlikeClocks
from fromplaces.polys import degree, is_poly, told, trimmed
from fromplaces.ratios import Ratio, as_ratio, over_one_bottom
from fromplaces.rests import Rows, hull_rows, whole_rest, whole_row_of
from fromplaces.solved import headed_steps, is_numbers, kernel
from fromplaces.wholes import whole_product

GREATEST_CLOCK = 20
MOST_POLYS = 12


class Room:
    """The least room modulo the clock that holds all of the polynomials. It never changes."""

    def __init__(self, clock, polys):
        self._clock = told_clock(clock)
        if not is_list(polys) or len(polys) > MOST_POLYS or not all([is_poly(one) for one in polys]):
            raise InvalidPolys(polys)
        whole = whole_clock(self._clock)
        rests = [whole_rest(over_one_bottom(told(one)), whole) for one in polys]
        self._rows = hull_rows([tops for tops, _ in rests], whole)

    @property
    def ties(self):
        """How many rows there are fewer than the clock's degree."""
        return self._rows.wide - len(self._rows.steps)

    @property
    def is_all(self):
        """Whether there are no ties, so that it holds all polynomials."""
        return self._rows.wide == len(self._rows.steps)

    def size(self):
        """How many rows there are."""
        return len(self._rows.steps)

    def clock(self):
        """The told clock."""
        return list(self._clock)

    def rows(self):
        """The list of the rows, lists of Ratios."""
        return [list(row) for row in self._rows.steps]

    def rest(self, poly):
        """The told rest of the polynomial modulo the clock."""
        tops, bottom = whole_rest(over_one_bottom(told(poly)), whole_clock(self._clock))
        return [Ratio(top, bottom) for top in tops]

    def holds(self, poly):
        """Whether the room holds the polynomial, of whatever degree."""
        tops, _ = whole_rest(over_one_bottom(told(poly)), whole_clock(self._clock))
        return self._rows.has(tops)

    def heads(self):
        """The sorted list of the degrees of what is in it, below the clock's."""
        return [self._rows.wide - 1 - head for head in self._rows.places[::-1]]

    def __eq__(self, other):
        return isinstance(other, Room) and self._clock == other._clock and self._rows.steps == other._rows.steps

    def __repr__(self):
        polys = [trimmed(row[::-1]) for row in self._rows.steps]
        return f"Room({self._clock!r}, {polys!r})"


def is_room(clock, value):
    """Whether the value is the rows of a room modulo the clock."""
    return rows_of_room(told_clock(clock), value) is not None


def room_by(clock, rows):
    """The Room with these rows: InvalidRows unless they are those of a room."""
    first = told_clock(clock)
    found = rows_of_room(first, rows)
    if found is None:
        raise InvalidRows(rows)
    return room_with(first, found)


def within(room, other):
    """Whether the room lies within the other one: UnlikeClocks unless both have one clock."""
    check_rooms(room, other)
    return all([other._rows.has(one) for one in room._rows.rests()])


def sum_room(room, other):
    """The least room that holds all that the one or the other one holds: UnlikeClocks unless both have one clock."""
    check_rooms(room, other)
    rests = room._rows.rests() + other._rows.rests()
    return room_with(room._clock, hull_rows(rests, whole_clock(room._clock)))


def meet_room(room, other):
    """What both rooms hold: UnlikeClocks unless both have one clock."""
    check_rooms(room, other)
    wide = room._rows.wide
    rows = kernel(tie_rows(room._rows) + tie_rows(other._rows), wide)
    return room_with(room._clock, Rows(headed_rows(rows), wide))


def led_room(room, clock):
    """The room led to the clock: NotDivided if it does not divide the room's clock."""
    check_room(room)
    first = told_clock(clock)
    whole = whole_clock(first)
    rest, _ = whole_rest((whole_clock(room._clock), 1), whole)
    if rest:
        raise NotDivided()
    wide = len(whole) - 1
    rests = [whole_rest((one, 1), whole) for one in room._rows.rests()]
    rows = headed_steps([whole_row_of(tops, wide) for tops, _ in rests])
    return room_with(first, Rows(rows, wide))


def is_clock(value):
    """Whether the value is a clock."""
    return is_poly(value) and 1 <= degree(value) <= GREATEST_CLOCK


def told_clock(clock):
    """The clock with the head 1, told: InvalidClock unless it is one."""
    if not is_clock(clock):
        raise InvalidClock(clock)
    first = told(clock)
    return [number.over(first[-1]) for number in first]


def check_room(room):
    """Raises InvalidRoom unless it is a Room."""
    if not isinstance(room, Room):
        raise InvalidRoom(room)


def check_rooms(room, other):
    """Raises InvalidRoom unless both are Rooms, UnlikeClocks unless they have one clock."""
    check_room(room)
    check_room(other)
    if room._clock != other._clock:
        raise UnlikeClocks()


def whole_clock(clock):
    """The told clock times such a number that it is of INTEGERS without a common divisor."""
    tops, _ = over_one_bottom(clock)
    return tops


def room_with(clock, rows):
    """The Room of a told clock and its Rows."""
    room = Room(clock, [])
    room._rows = rows
    return room


def tie_rows(rows):
    """The rows, one for each tie, that lead what is in the room to 0, each to 0."""
    found = []
    for at in range(rows.wide):
        if at not in rows.places:
            row = [Ratio(1 if place == at else 0) for place in range(rows.wide)]
            for head, one in zip(rows.places, rows.steps):
                row[head] = -one[at]
            found.append(row)
    return found


def rows_of_room(clock, value):
    """The Rows of a value, None unless it is the rows of a room modulo the told clock."""
    wide = len(clock) - 1
    if not is_list(value) or len(value) > wide or not all([is_numbers(row) and len(row) == wide for row in value]):
        return None
    headed = headed_rows([[as_ratio(number) for number in row] for row in value])
    if headed is None:
        return None
    rows = Rows(headed, wide)
    return rows if is_closed(rows, whole_clock(clock)) else None


def headed_rows(rows):
    """The tuples of a row's head's place and the row, None unless the rows stand in steps."""
    found = []
    for row in rows:
        heads = [at for at, number in enumerate(row) if number.sign != 0]
        if not heads or row[heads[0]] != Ratio(1) or (found and heads[0] <= found[-1][0]):
            return None
        found.append((heads[0], row))
    for head, row in found:
        if len([one for one in rows if one[head].sign != 0]) != 1:
            return None
    return found


def is_closed(rows, clock):
    """Whether the sums of the rows' multiples hold 1 and the rest of each product of two of them."""
    if not rows.has([1]):
        return False
    if len(rows.steps) == rows.wide:
        return True
    polys = rows.rests()
    for at, one in enumerate(polys):
        for other in polys[at:]:
            rest, _ = whole_rest((whole_product(one, other), 1), clock)
            if not rows.has(rest):
                return False
    return True
