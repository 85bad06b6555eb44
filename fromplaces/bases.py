"""Full bases of makers: the least met counts, what is made of these degrees, the inner part."""

from fromplaces.basics import is_list
from fromplaces.built import making_to
from fromplaces.frames import Frame
from fromplaces.polys import is_poly, told


def full_base(makers):
    """The full base, a list of told polynomials by rising degrees."""
    return Frame(makers).base()


def is_full_base(makers, value):
    """Whether the value is a list of polynomials that are just the full base, in its sequence."""
    base = full_base(makers)
    if not is_list(value) or not all([is_poly(one) for one in value]):
        return False
    return [told(one) for one in value] == base


def base_makings(makers):
    """For each of the full base a making that comes to it."""
    frame = Frame(makers)
    return [making_to(frame, one) for one in frame.base()]


def met_counts(makers):
    """The list of the least met counts, rising."""
    return Frame(makers).least()


def common_degree(makers):
    """The greatest common divisor of all met counts but 0."""
    return Frame(makers).step


def inner_part(makers):
    """The inner part of the makers, told."""
    return Frame(makers).inner
