"""What is left of polynomials, whether they are made of makers, and makings of them."""

from fromplaces.basics import check_many
from fromplaces.built import making_to
from fromplaces.counts import met_table
from fromplaces.errors import TooMany
from fromplaces.frames import Frame
from fromplaces.lefts import left_of, taken_poly
from fromplaces.makers import told_makers
from fromplaces.makings import told_worth, worths_of
from fromplaces.polys import MOST_DEGREE, told
from fromplaces.ratios import over_one_bottom

MOST_LEFT = 24


def left(makers, poly):
    """What is left of the polynomial, told."""
    known, first = asked(makers, poly)
    return left_by(Frame(known), first)


def is_made(makers, poly):
    """Whether the polynomial is made of the makers."""
    known, first = asked(makers, poly)
    return left_by(Frame(known), first) == []


def making_of(makers, poly):
    """A making that comes to the polynomial, None if it is not made."""
    known, first = asked(makers, poly)
    frame = Frame(known)
    return making_to(frame, first) if left_by(frame, first) == [] else None


def is_making_of(makers, poly, value):
    """Whether the value is a making that comes to the polynomial."""
    known, first = asked(makers, poly)
    worths = worths_of(known, value)
    return worths is not None and told_worth(worths[-1]) == first


def taken_to(makers, many):
    """The made polynomial of this degree of [42], told; None if the degree is not met."""
    known = told_makers(makers)
    check_many(many, 0, MOST_DEGREE)
    frame = Frame(known)
    if not met_table(frame.least(), many)[many]:
        return None
    return taken_poly(frame.lefts(many), many)


def asked(makers, poly):
    """The told makers and polynomial: TooMany if its degree is above 24."""
    known = told_makers(makers)
    first = told(poly)
    if len(first) - 1 > MOST_LEFT:
        raise TooMany("degree", MOST_LEFT)
    return known, first


def left_by(frame, poly):
    """What is left of a told polynomial."""
    tops, bottom = over_one_bottom(poly)
    return told_worth(left_of(tops, bottom, frame.lefts(len(poly) - 1)))
