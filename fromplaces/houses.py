"""Houses: all that makers of the common degree 1 make."""

from fromplaces.clockwork import clock_by
from fromplaces.counts import unmet
from fromplaces.errors import InvalidHouse, NotAll, TooMany
from fromplaces.frames import Frame
from fromplaces.lefts import left_of, taken_poly
from fromplaces.polys import told
from fromplaces.ratios import Ratio, over_one_bottom
from fromplaces.rests import Rows, whole_rest
from fromplaces.rooms import room_with, whole_clock

MOST_GAPS = 10


class House:
    """All that the makers make: NotAll if their common degree is above 1, TooMany if it has above 10 gaps.

    It never changes.
    """

    def __init__(self, makers):
        frame = Frame(makers)
        if frame.step > 1:
            raise NotAll()
        least = frame.least()
        self._gaps = unmet(least)
        if len(self._gaps) > MOST_GAPS:
            raise TooMany("gaps", MOST_GAPS)
        most = 2 * len(self._gaps)
        lefts = frame.lefts(max(most + least[0], least[-1]))
        self._base = [taken_poly(lefts, count) for count in least]
        self._clock = clock_by(lefts[:most + least[0]], self._gaps, least[0], most)
        self._lefts = lefts[:len(self._clock) - 1]

    @property
    def gap_count(self):
        """How many gaps there are."""
        return len(self._gaps)

    def base(self):
        """The told full base."""
        return [list(one) for one in self._base]

    def gaps(self):
        """The sorted list of the gaps."""
        return list(self._gaps)

    def holds(self, poly):
        """Whether it holds the polynomial."""
        return self.left(poly) == []

    def left(self, poly):
        """What is left of the polynomial, told."""
        rest, bottom = whole_rest(over_one_bottom(told(poly)), whole_clock(self._clock))
        tops, bottom = left_of(rest, bottom, self._lefts)
        return [Ratio(top, bottom) for top in tops]

    def clock(self):
        """The told clock."""
        return list(self._clock)

    def room(self):
        """The Room of what it holds modulo its clock, None if there is no gap."""
        if not self._gaps:
            return None
        wide = len(self._clock) - 1
        headed = []
        for power in range(wide - 1, -1, -1):
            if power not in self._gaps:
                row = [Ratio(0)] * (wide - 1 - power) + taken_poly(self._lefts, power)[::-1]
                headed.append((wide - 1 - power, row))
        return room_with(self._clock, Rows(headed, wide))

    def __eq__(self, other):
        return isinstance(other, House) and self._base == other._base

    def __repr__(self):
        return f"House({self._base!r})"


def check_house(house):
    """Raises InvalidHouse unless it is a House."""
    if not isinstance(house, House):
        raise InvalidHouse(house)


def house_with(base, gaps, clock, lefts):
    """The House of this told full base, these gaps and told clock, by what is left of the powers of t."""
    house = House([[0, 1]])
    house._base = base
    house._gaps = gaps
    house._clock = clock
    house._lefts = lefts[:len(clock) - 1]
    return house
