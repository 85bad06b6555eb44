"""The roots of polynomials of INTEGERS that are fractions."""

from math import isqrt

from fromplaces.wholes import common_steps, fraction_of, inverse, primitive, whole_common, whole_quotient

LEAST_PRIME = 23


def fraction_roots(wholes):
    """The tuples (top, bottom, often) of the roots that are fractions, each with how often it is one.

    The polynomial is not nought; its numbers have no common divisor.
    """
    single = whole_quotient(wholes, whole_common(wholes, primitive(whole_derived(wholes))))
    found = [(top, bottom, root_often(wholes, top, bottom)) for top, bottom in likely_roots(single)]
    return [root for root in found if root[2] > 0]


def whole_derived(wholes):
    """The derived polynomial."""
    return [whole * power for power, whole in enumerate(wholes)][1:]


def root_often(wholes, top, bottom):
    """How often the fraction in lowest terms is a root."""
    often = 0
    left = whole_quotient(wholes, [-top, bottom])
    while left is not None:
        often += 1
        left = whole_quotient(left, [-top, bottom])
    return often


def likely_roots(wholes):
    """Fractions (top, bottom), all the roots that are fractions among them, of a polynomial without a root twice."""
    # Above and below the stroke a root has divisors of the last and of the first number that is not 0. So its rest
    # modulo a power that is great enough tells it; no two roots have one rest modulo the prime.
    greatest = max([abs(whole) for whole in wholes])
    prime = fitting_prime(wholes)
    found = []
    for rest in range(prime):
        if rest_worth(wholes, rest, prime) == 0:
            lifted, power = lifted_root(wholes, rest, prime, 2 * greatest * greatest)
            fraction = fraction_of(lifted, power, isqrt(power // 2))
            if fraction is not None:
                found.append(fraction)
    return found


def fitting_prime(wholes):
    """A prime modulo which the polynomial has the same degree, and still no root twice."""
    derived = whole_derived(wholes)
    prime = LEAST_PRIME
    while not is_prime(prime) or wholes[-1] % prime == 0 or len(common_steps(wholes, derived, prime)) > 1:
        prime += 1
    return prime


def is_prime(number):
    """Whether the number, above 1, is a prime."""
    return all([number % one != 0 for one in range(2, isqrt(number) + 1)])


def rest_worth(wholes, rest, modulus):
    """The rest of the polynomial's worth at the rest."""
    found = 0
    for whole in wholes[::-1]:
        found = (found * rest + whole) % modulus
    return found


def lifted_root(wholes, rest, prime, limit):
    """The tuple of the root modulo a power of the prime above the limit that has this rest, and the power."""
    derived = whole_derived(wholes)
    root, power = rest, prime
    while power <= limit:
        power = power * power
        back = inverse(rest_worth(derived, root, power), power)
        root = (root - rest_worth(wholes, root, power) * back) % power
    return root, power
