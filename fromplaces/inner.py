"""Polynomials of another polynomial: digits by it, the outer polynomial, root parts."""

from fromplaces.basics import check_many
from fromplaces.errors import InvalidInner, OnlyNumber
from fromplaces.polys import MOST_DEGREE, is_poly, quotient_and_rest, told, trimmed
from fromplaces.ratios import Ratio


def digits(poly, inner):
    """The list of the polynomial's digits by inner, told."""
    first = told(poly)
    return digits_by(first, told_inner(inner))


def outer(poly, inner):
    """The told f with the polynomial being f of inner, None if there is none."""
    first = told(poly)
    return outer_by(first, told_inner(inner))


def root_part(poly, many):
    """The polynomial's root part of the degree many, told; None if there is none."""
    first = told(poly)
    check_many(many, 1, MOST_DEGREE)
    if len(first) < 2:
        raise OnlyNumber()
    if (len(first) - 1) % many != 0:
        return None
    found = root_like(first, many)
    return found if outer_by(first, found) is not None else None


def greatest_inner(polys):
    """The root part of the greatest degree of which all these told polynomials of degrees above 0 are polynomials."""
    for many in range(min([len(one) for one in polys]) - 1, 1, -1):
        if all([(len(one) - 1) % many == 0 for one in polys]):
            found = root_like(polys[0], many)
            if all([outer_by(one, found) is not None for one in polys]):
                return found
    return [Ratio(0), Ratio(1)]


def told_inner(inner):
    """The polynomial inner, told: InvalidInner unless it is of the degree 1 or more."""
    if not is_poly(inner) or len(told(inner)) < 2:
        raise InvalidInner(inner)
    return told(inner)


def digits_by(poly, inner):
    """The digits of a told polynomial by a told one of the degree 1 or more."""
    found, left = [], poly
    while left:
        left, rest = quotient_and_rest(left, inner)
        found.append(rest)
    return found


def outer_by(poly, inner):
    """The f with poly being f of inner, both told; None if there is none."""
    found = digits_by(poly, inner)
    if any([len(one) > 1 for one in found]):
        return None
    return trimmed([one[0] if one else Ratio(0) for one in found])


def root_like(poly, many):
    """The one polynomial of this degree, which divides that of the told one, that can be its root part."""
    # By falling powers, h to the n / m begins as the polynomial over its head does, for m numbers. A root of a sum
    # of powers is found number by number: its derived one times the sum is itself times the derived sum over n / m.
    top = len(poly) - 1
    over_head = [number.over(poly[top]) for number in poly[::-1][:many]]
    share = Ratio(many, top)
    found = [Ratio(1)]
    for at in range(1, many):
        parts = [
            over_head[back] * found[at - back] * (share * back - (at - back)) for back in range(1, at + 1)
        ]
        found.append(Ratio.total(parts).over(at))
    return [Ratio(0), *found[::-1]]
