"""Slow reckoning with Fractions, by closing up sums of products, to try what the package tells."""

from fractions import Fraction

from support import ratio


def fractions(poly):
    """The polynomial as a list of Fractions without noughts at its end."""
    found = [Fraction(ratio(one).top, ratio(one).bottom) for one in poly]
    while found and found[-1] == 0:
        found.pop()
    return found


def product(one, other):
    found = [Fraction(0)] * (len(one) + len(other) - 1 if one and other else 0)
    for at, a in enumerate(one):
        for place, b in enumerate(other):
            found[at + place] += a * b
    return found


def rest(poly, clock):
    left = list(poly)
    while len(left) >= len(clock):
        part = left[-1] / clock[-1]
        for at, number in enumerate(clock):
            left[len(left) - len(clock) + at] -= part * number
        while left and left[-1] == 0:
            left.pop()
    return left


def lowered(poly, heads):
    """The polynomial less multiples of the heads, a dict by degrees, at all powers where there is one."""
    left = list(poly)
    for power in range(len(left) - 1, -1, -1):
        if left[power] != 0 and power in heads:
            part = left[power] / heads[power][-1]
            for at, number in enumerate(heads[power]):
                left[at] -= part * number
    while left and left[-1] == 0:
        left.pop()
    return left


def made_of(makers, most):
    """All that makers make by products of a degree to most alone, those that stand before they fall away counted.

    For each degree there is one polynomial of it, its head 1, else with numbers at powers that are no such degree.
    """
    polys = [fractions(one) for one in makers]
    heads, waiting = {0: [Fraction(1)]}, list(polys)
    while waiting:
        waiting.sort(key=len)
        left = lowered(waiting.pop(0), heads)
        if left:
            heads[len(left) - 1] = [number / left[-1] for number in left]
            waiting.extend([product(left, one) for one in polys if len(left) + len(one) - 2 <= most])
    for power in sorted(heads):
        low = lowered(heads[power][:-1], {other: one for other, one in heads.items() if other < power})
        heads[power] = low + [Fraction(0)] * (power - len(low)) + [Fraction(1)]
    heads[0] = [Fraction(1)]
    return heads


def hull(clock, polys):
    """The least room modulo the clock: the dict of its heads with one of each."""
    modulus = fractions(clock)
    rests = [rest(fractions(one), modulus) for one in polys]
    heads, waiting = {}, [[Fraction(1)]]
    while waiting:
        left = lowered(waiting.pop(0), heads)
        if left:
            heads[len(left) - 1] = left
            waiting.extend([rest(product(left, one), modulus) for one in rests if one])
    return heads
