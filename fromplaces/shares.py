"""How often products are added up to something made of them, with not too many digits."""

from math import gcd

from fromplaces.ratios import Ratio, over_one_bottom
from fromplaces.solved import headed_steps
from fromplaces.wholes import inverse

# Shares of more bits than this are looked for once more, with some products more to be shared among.
LONG_BITS = 5500
MORE_PRODUCTS = 6


def shared_out(polys, goals):
    """For each goal its shares: how often polynomials without numbers are added up to it, a list of Ratios."""
    columns = [*polys, *goals]
    wide = max([len(one) for one in columns])
    rows = [[one[power] if power < len(one) else 0 for one in columns] for power in range(1, wide)]
    steps = [row for _, row in headed_steps(rows)]
    return [[row[len(polys) + place] for row in steps[:len(polys)]] for place in range(len(goals))]


def most_bits(numbers):
    """How many bits the longest one of the parts of the Ratios has."""
    return max([max(abs(one.top).bit_length(), one.bottom.bit_length()) for one in numbers])


def shorter(numbers, others):
    """Shares of the same goal with fewer digits, also of the products of which others are the shares.

    So many more numbers stand behind the first ones.
    """
    # Where the goal has the shares n / b and the other product m / c, the goal has for any q and s the shares
    # (q n - s m) / q b, too, and s c / q b of that product. Modulo what b and c have in common n and m are multiples
    # of one list: for some q and s that are not great q n - s m is a multiple of it, and it falls away.
    tops, bottom = over_one_bottom(numbers)
    shares = [over_one_bottom(one) for one in others]
    vectors = common_vectors(tops, bottom, shares)
    found = [[*numbers, *[Ratio(0) for _ in others]]]
    for often, *more in vectors:
        if often != 0:
            parts = [
                often * top - sum([one * share[0][place] for one, share in zip(more, shares)])
                for place, top in enumerate(tops)
            ]
            behind = [one * share[1] for one, share in zip(more, shares)]
            found.append([Ratio(one, often * bottom) for one in parts + behind])
    sizes = [most_bits(one) for one in found]
    return found[sizes.index(min(sizes))]


def common_vectors(tops, bottom, shares):
    """Short lists of how often tops, and how often the tops of shares less, come to what the bottoms share."""
    modulus = bottom
    for _, below in shares:
        modulus = gcd(modulus, below)
    first = shares[0][0]
    shared, at = min([(gcd(one, modulus), place) for place, one in enumerate(first)])
    while shared > 1:
        modulus = modulus // shared
        shared = gcd(first[at], modulus)
    back = inverse(first[at] % modulus, modulus)
    units = [[1 if column == row else 0 for column in range(len(shares))] for row in range(1, len(shares))]
    behind = [[0, -numbers[at] * back % modulus, *unit[1:]] for (numbers, _), unit in zip(shares[1:], units)]
    none = [0] * (len(shares) - 1)
    return reduced([[1, tops[at] * back % modulus, *none], *behind, [0, modulus, *none]])


def reduced(vectors):
    """Lists of the same sums of multiples, each not longer for any one of the others taken off it."""
    found = list(vectors)
    sizes = [product_sum(one, one) for one in found]
    is_done = False
    while not is_done:
        is_done = True
        for at in range(len(found)):
            for place in range(len(found)):
                one, other, size = found[at], found[place], sizes[place]
                often = 0 if place == at else (2 * product_sum(one, other) + size) // (2 * size)
                if often != 0:
                    less = [top - often * behind for top, behind in zip(one, other)]
                    less_size = product_sum(less, less)
                    if less_size < sizes[at]:
                        found[at], sizes[at] = less, less_size
                        is_done = False
    return found


def product_sum(first, second):
    """The sum of the products at the same places."""
    return sum([one * two for one, two in zip(first, second)])
