"""Makers: 1 to 4 polynomials of the degrees 1 to 7."""

from fromplaces.basics import is_list
from fromplaces.errors import InvalidMakers
from fromplaces.polys import degree, is_poly, told

MOST_MAKERS = 4
GREATEST_DEGREE = 7


def is_makers(value):
    """Whether the value is makers."""
    if not is_list(value) or len(value) < 1 or len(value) > MOST_MAKERS:
        return False
    return all([is_poly(one) and 1 <= degree(one) <= GREATEST_DEGREE for one in value])


def told_makers(makers):
    """The list of the makers' told polynomials."""
    if not is_makers(makers):
        raise InvalidMakers(makers)
    return [told(one) for one in makers]


def degrees(makers):
    """The list of the makers' degrees, in their sequence."""
    return [len(one) - 1 for one in told_makers(makers)]
