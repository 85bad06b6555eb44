"""Makings: lines of products that work a polynomial out from makers."""

from math import lcm

from fromplaces.basics import is_count, is_list
from fromplaces.errors import InvalidMaking, TooMany
from fromplaces.makers import told_makers
from fromplaces.packed import sum_of_products
from fromplaces.ratios import Ratio, as_ratio, is_number, over_one_bottom
from fromplaces.wholes import lowest

MOST_LINES = 200
MOST_PARTS = 60
MOST_DEGREE = 96


def is_making(makers, value):
    """Whether the value is a making of the makers."""
    return worths_of(told_makers(makers), value) is not None


def made_by(makers, making):
    """What the making comes to, told."""
    return lines_by(makers, making)[-1]


def lines_by(makers, making):
    """The list of what the making's lines are worth, told."""
    return [told_worth(worth) for worth in checked_worths(told_makers(makers), making)]


def sum_making(makers, making, other, number):
    """A making that comes to what the first one comes to, and the number times what the other one does."""
    known = told_makers(makers)
    checked_worths(known, making)
    checked_worths(known, other)
    often = as_ratio(number)
    lines, last, other_last = joined_lines(known, making, other)
    return [*lines, [(last, 0, Ratio(1)), (other_last, 0, often)]]


def product_making(makers, making, other):
    """A making that comes to the product of what both come to: TooMany if its degree is above 96."""
    known = told_makers(makers)
    first, _ = checked_worths(known, making)[-1]
    second, _ = checked_worths(known, other)[-1]
    lines, last, other_last = joined_lines(known, making, other)
    if first and second and len(first) + len(second) - 2 > MOST_DEGREE:
        raise TooMany("degree", MOST_DEGREE)
    return [*lines, [(last, other_last, Ratio(1))]]


def worths_of(known, value):
    """What the lines of a making of told makers are worth, as (tops, bottom); None unless the value is one."""
    if not is_list(value) or len(value) < 1 or len(value) > MOST_LINES:
        return None
    worths = [([1], 1), *[over_one_bottom(one) for one in known]]
    for line in value:
        if not is_line(line, len(worths)):
            return None
        worth = line_worth(line, worths)
        if len(worth[0]) - 1 > MOST_DEGREE:
            return None
        worths.append(worth)
    return worths[len(known) + 1:]


def checked_worths(known, making):
    """What the lines of the making are worth: InvalidMaking unless it is one."""
    worths = worths_of(known, making)
    if worths is None:
        raise InvalidMaking(making)
    return worths


def is_line(value, many):
    """Whether the value is a line that takes positions below many alone."""
    return is_list(value) and len(value) <= MOST_PARTS and all([is_part(part, many) for part in value])


def is_part(value, many):
    """Whether the value is a tuple of two positions below many and a number."""
    if not isinstance(value, tuple) or len(value) != 3:
        return False
    return all([is_count(place) and place < many for place in value[:2]]) and is_number(value[2])


def line_worth(line, worths):
    """What the line is worth, as (tops, bottom), by what stands at the positions."""
    bottom, parts = 1, []
    for first, second, number in line:
        often = as_ratio(number)
        if often.sign != 0 and worths[first][0] and worths[second][0]:
            below = often.bottom * worths[first][1] * worths[second][1]
            bottom = lcm(bottom, below)
            parts.append((first, second, often.top, below))
    even = [(first, second, top * (bottom // below)) for first, second, top, below in parts]
    return lowest(sum_of_products(even, [tops for tops, _ in worths]), bottom)


def told_worth(worth):
    """The polynomial (tops, bottom), told."""
    tops, bottom = worth
    return [Ratio(top, bottom) for top in tops]


def joined_lines(known, making, other):
    """The tuple of the lines of both makings, and the positions of their last ones: TooMany if they are above 199."""
    if len(making) + len(other) > MOST_LINES - 1:
        raise TooMany("lines", MOST_LINES)
    lines = moved_lines(making, len(known), 0) + moved_lines(other, len(known), len(making))
    return lines, len(known) + len(making), len(known) + len(lines)


def moved_lines(making, many, further):
    """The lines with the positions of lines, those above many, so much further on."""
    return [
        [
            (moved(first, many, further), moved(second, many, further), as_ratio(number))
            for first, second, number in line
        ]
        for line in making
    ]


def moved(place, many, further):
    """The position so much further on if it is that of a line."""
    return place + further if place > many else place
