"""What is left of each power of t, by polynomials of the least met degrees.

A polynomial is (tops, bottom) here: the tops, INTEGERS, are divided by the bottom.
"""

from math import lcm

from fromplaces.counts import met_table
from fromplaces.ratios import Ratio
from fromplaces.wholes import lowest, whole_product, without_noughts


def lefts_of(leads, last):
    """The list of what is left of each power, to the last one.

    For each least met count leads have the tops of something made of this degree.
    """
    least = sorted(list(leads))
    is_met = met_table(least, last)
    lefts = [([], 1)]
    for power in range(1, last + 1):
        if not is_met[power]:
            lefts.append(([0] * power + [1], 1))
        elif power in leads:
            lefts.append(left_of_head(leads[power], lefts))
        else:
            one = [count for count in least if count < power and is_met[power - count]][0]
            lefts.append(left_of_head(whole_product(taken(lefts, one), taken(lefts, power - one)), lefts))
    return lefts


def left_of_head(tops, lefts):
    """What is left of the power of the head of something made, by what is left of all lesser powers."""
    return left_of([-top for top in tops[:-1]], tops[-1], lefts)


def left_of(tops, bottom, lefts):
    """What is left of a polynomial."""
    used = [(top, left) for top, left in zip(tops, lefts) if top != 0 and left[0]]
    shared = 1
    for _, left in used:
        shared = lcm(shared, left[1])
    sums = [0] * max([len(left[0]) for _, left in used], default=0)
    for often, left in used:
        factor = often * (shared // left[1])
        for place, top in enumerate(left[0]):
            if top != 0:
                sums[place] += factor * top
    return lowest(without_noughts(sums), shared * bottom)


def taken(lefts, power):
    """The made polynomial of this met degree with else numbers at powers that are not met alone: its tops."""
    tops, bottom = lefts[power]
    return [-top for top in tops] + [0] * (power - len(tops)) + [bottom]


def taken_poly(lefts, power):
    """The made polynomial of this met degree, with the head 1, of [42], told; 1 for the power 0."""
    tops = taken(lefts, power)
    return [Ratio(top, tops[-1]) for top in tops]
