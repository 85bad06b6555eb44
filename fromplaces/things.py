"""The things that deeds make: polynomials, makers and rooms."""

from fromplaces.bases import inner_part
from fromplaces.errors import InvalidMany, InvalidPosition
from fromplaces.houses import House
from fromplaces.made import left
from fromplaces.makers import told_makers
from fromplaces.polys import MOST_DEGREE, derived, minus, plus, put_in, times, told
from fromplaces.ratios import Ratio
from fromplaces.rooms import Room, led_room, meet_room, sum_room


def made_of(word, parts):
    """What the deed with this word makes of the parts behind its new name, or of all of them."""
    action = ACTIONS[word]
    return action(parts)


def kind_made(word):
    """The kind of the thing that the deed with this word makes."""
    if word in ("makers", "add", "take"):
        return "makers"
    return "room" if word in ("room", "roomof", "joined", "shared", "led") else "one"


def poly_told(parts):
    """The polynomial."""
    return told(parts[0])


def makers_told(parts):
    """The makers that the polynomials are."""
    return told_makers(parts)


def poly_sum(parts):
    """The sum."""
    return plus(parts[0], parts[1])


def poly_less(parts):
    """The difference."""
    return minus(parts[0], parts[1])


def poly_product(parts):
    """The product."""
    return times(parts[0], parts[1])


def poly_put_in(parts):
    """The first polynomial with the other one put in."""
    return put_in(parts[0], parts[1])


def poly_derived(parts):
    """The derived polynomial."""
    return derived(parts[0])


def poly_left(parts):
    """What is left of the polynomial by the makers."""
    return left(parts[0], parts[1])


def makers_inner(parts):
    """The inner part of the makers."""
    return inner_part(parts[0])


def makers_clock(parts):
    """The clock of the House of the makers."""
    return House(parts[0]).clock()


def room_of_polys(parts):
    """The Room of the clock and the polynomials behind it."""
    return Room(parts[0], parts[1:])


def room_of_makers(parts):
    """The Room of the makers and the clock."""
    return Room(parts[1], parts[0])


def room_sum(parts):
    """The sum of the rooms."""
    return sum_room(parts[0], parts[1])


def room_meet(parts):
    """The meet of the rooms."""
    return meet_room(parts[0], parts[1])


def room_led(parts):
    """The room led to the clock."""
    return led_room(parts[0], parts[1])


def room_clock(parts):
    """The clock of the room."""
    return parts[0].clock()


def makers_and_one(parts):
    """The makers with the polynomial as their last one: InvalidMakers if they are none."""
    makers, one = parts
    return told_makers([*makers, one])


def makers_but_one(parts):
    """The makers without the one at the position: InvalidPosition unless it is there, InvalidMakers if none is left."""
    makers, position = parts
    if position >= len(makers):
        raise InvalidPosition(position)
    return told_makers([one for at, one in enumerate(makers) if at != position])


def poly_changed(parts):
    """The polynomial with this number at the power: InvalidMany if the power is above 48."""
    poly, power, number = parts
    if power > MOST_DEGREE:
        raise InvalidMany(power)
    longer = poly + [Ratio(0)] * (power + 1 - len(poly))
    return told([number if at == power else one for at, one in enumerate(longer)])


ACTIONS = {
    "poly": poly_told, "makers": makers_told, "sum": poly_sum, "less": poly_less, "times": poly_product,
    "put": poly_put_in, "slope": poly_derived, "left": poly_left, "inner": makers_inner, "clock": makers_clock,
    "room": room_of_polys, "roomof": room_of_makers, "joined": room_sum, "shared": room_meet, "led": room_led,
    "ring": room_clock, "add": makers_and_one, "take": makers_but_one, "change": poly_changed,
}
