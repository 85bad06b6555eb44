"""The common part and the least multiple of polynomials, and the part of one with another one."""

from fromplaces.errors import NoughtPoly, TooMany
from fromplaces.polys import MOST_DEGREE, told
from fromplaces.ratios import Ratio, over_one_bottom
from fromplaces.wholes import primitive, whole_common, whole_product, whole_quotient


def common(poly, other):
    """The common part, told."""
    first = whole_poly(poly)
    second = whole_poly(other)
    return with_head_one(whole_common(first, second))


def multiple(poly, other):
    """The least multiple, told: NoughtPoly if one is nought, TooMany if its degree is above 48."""
    first = whole_poly(poly)
    second = whole_poly(other)
    if not first or not second:
        raise NoughtPoly()
    factor = whole_quotient(first, whole_common(first, second))
    if len(factor) + len(second) - 2 > MOST_DEGREE:
        raise TooMany("degree", MOST_DEGREE)
    return with_head_one(whole_product(factor, second))


def part_with(poly, other):
    """The part of the polynomial with the other one, told: NoughtPoly if one is nought."""
    first = whole_poly(poly)
    second = whole_poly(other)
    if not first or not second:
        raise NoughtPoly()
    left = first
    shared = whole_common(left, second)
    while len(shared) > 1:
        left = whole_quotient(left, shared)
        shared = whole_common(left, second)
    return with_head_one(whole_quotient(first, left))


def whole_poly(poly):
    """The polynomial times such a number that it is of INTEGERS without a common divisor."""
    tops, _ = over_one_bottom(told(poly))
    return primitive(tops)


def with_head_one(wholes):
    """The polynomial of INTEGERS divided by its head, told."""
    return [Ratio(whole, wholes[-1]) for whole in wholes]
