"""Lists of INTEGERS: as polynomials by rising powers, by their rests modulo great primes, and back."""

from math import gcd, isqrt

# 2 to each of these powers, less 1, is a prime. What is true of INTEGERS is found by their rests
# modulo such a prime, where they stay small, and then tried; a greater prime tells greater answers.
PRIME_POWERS = (521, 1279, 2203, 4423, 9689, 19937, 44497)
# Another such power, for what wants no fractions: which rows are made of others, and which degrees there are.
SMALL_POWER = 61


def primes():
    """The primes of PRIME_POWERS, rising."""
    return [(1 << power) - 1 for power in PRIME_POWERS]


def moduli():
    """A prime that is done with quickly, the greater ones, and at last 0, which goes for none."""
    return [(1 << SMALL_POWER) - 1, *primes(), 0]


def shrunk(wholes, prime):
    """The rests modulo the prime; for 0 in its place the wholes without their common divisor."""
    if prime != 0:
        return [whole % prime for whole in wholes]
    return primitive(wholes)


def primitive(wholes):
    """The wholes divided by the greatest INTEGER that divides them all."""
    shared = 0
    for whole in wholes:
        shared = gcd(shared, whole)
        if shared == 1:
            return list(wholes)
    if shared == 0:
        return list(wholes)
    return [whole // shared for whole in wholes]


def lowest(tops, bottom):
    """The polynomial of the tops over the bottom as (tops, bottom), the bottom the least one and above 0."""
    shared = bottom
    for top in tops:
        shared = gcd(shared, top)
        if shared == 1:
            break
    if bottom < 0:
        shared = -abs(shared)
    else:
        shared = abs(shared)
    return [top // shared for top in tops], bottom // shared


def small_multiple(rest, prime, limit):
    """The tuple (top, bottom), top from 0 to the limit, with the rest times the bottom being the top.

    It is found as the greatest common divisor of the prime and the rest would be; the bottom may be below 0.
    """
    older, old_bottom = prime, 0
    newer, bottom = rest, 1
    while newer > limit:
        often = older // newer
        older, newer = newer, older - often * newer
        old_bottom, bottom = bottom, old_bottom - often * bottom
    return newer, bottom


def inverse(rest, prime):
    """What the rest, not 0, is multiplied by to come to 1 modulo the prime."""
    _, bottom = small_multiple(rest, prime, 1)
    return bottom % prime


def fraction_of(rest, prime, limit):
    """The fraction (top, bottom) of this rest with no part above the limit, None if there is none."""
    top, bottom = small_multiple(rest, prime, limit)
    if abs(bottom) > limit:
        return None
    return (-top, -bottom) if bottom < 0 else (top, bottom)


def fractions_of(rests, prime):
    """Fractions of these rests with small parts, as (tops, bottom), None if they are not small.

    They are a guess that wants to be tried: other fractions have the same rests.
    """
    limit = isqrt(prime // 2)
    tops, bottom = [], 1
    for rest in rests:
        # Fractions of one answer share most of their bottoms: over the bottom so far it is short work.
        found = fraction_of(rest * bottom % prime, prime, limit)
        if found is None:
            return None
        top, more = found
        tops = [one * more for one in tops] + [top]
        bottom = bottom * more
        if bottom > limit:
            return None
    return tops, bottom


def without_noughts(wholes):
    """The wholes without the noughts at their end."""
    size = len(wholes)
    while size > 0 and wholes[size - 1] == 0:
        size -= 1
    return wholes[:size]


def whole_product(first, second):
    """The product of two polynomials that are not nought."""
    found = [0] * (len(first) + len(second) - 1)
    for place, one in enumerate(first):
        for at, two in enumerate(second):
            found[place + at] += one * two
    return found


def whole_put_in(wholes, tops, bottom):
    """The polynomial with the one of the tops over the bottom put in, times such a number that it is of INTEGERS."""
    found, power = [0], 1
    for whole in wholes[::-1]:
        found = whole_product(found, tops) if any(found) else [0]
        found[0] += whole * power
        power = power * bottom
    return primitive(found)


def whole_quotient(first, second):
    """The first polynomial divided by the second one, None unless it comes out in INTEGERS without a rest."""
    rest, found = first, []
    while len(rest) >= len(second):
        part, more = divmod(rest[-1], second[-1])
        if more != 0:
            return None
        place = len(rest) - len(second)
        high = [one - part * two for one, two in zip(rest[place:], second)]
        rest = rest[:place] + high[:-1]
        found.append(part)
    if any(rest):
        return None
    return found[::-1]


def whole_common(first, second):
    """The common part of two polynomials of INTEGERS without a common divisor, but for a number."""
    if not first or not second:
        return first + second
    for prime in primes():
        found = tried_common(first, second, prime)
        if found is not None:
            return found
    return common_steps(first, second, 0)


def tried_common(first, second, prime):
    """The common part, as the rests modulo the prime tell it; None if they do not."""
    # Modulo a prime that does not divide the first one's head the common part is of no lesser degree
    # than it is without: so what divides both, and is of this degree, is the common part.
    if first[-1] % prime == 0:
        return None
    rests = common_steps(first, second, prime)
    if len(rests) == 1:
        return [1]
    back = inverse(rests[-1], prime)
    found = fractions_of([rest * back % prime for rest in rests], prime)
    if found is None:
        return None
    tried = primitive(found[0])
    if whole_quotient(first, tried) is None or whole_quotient(second, tried) is None:
        return None
    return tried


def common_steps(first, second, prime):
    """The common part, but for a number, modulo the prime; without one for 0 in its place."""
    first = without_noughts(shrunk(first, prime))
    second = without_noughts(shrunk(second, prime))
    while second:
        while len(first) >= len(second):
            first = without_noughts(shrunk(taken_off(first, second), prime))
        first, second = second, first
    return first


def taken_off(first, second):
    """A multiple of the first polynomial, less such a multiple of the second one that its head is gone."""
    place = len(first) - len(second)
    lead, head = first[-1], second[-1]
    low = [one * head for one in first[:place]]
    high = [one * head - two * lead for one, two in zip(first[place:], second)]
    return low + high[:-1]


def lowered_by(poly, heads, prime):
    """The polynomial taken off by the heads, a dict by degrees, as far as they go from its head down."""
    one = poly
    while one and len(one) - 1 in heads:
        one = without_noughts(shrunk(taken_off(one, heads[len(one) - 1]), prime))
    return one
