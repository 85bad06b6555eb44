"""Rests modulo a clock, and the rows of rooms, all of INTEGERS.

A clock is a list of INTEGERS here, without a common divisor; rests stand for all their multiples but where it
tells (tops, bottom).
"""

from fromplaces.ratios import Ratio, over_one_bottom
from fromplaces.solved import headed_steps, is_row_made
from fromplaces.wholes import lowered_by, lowest, moduli, shrunk, taken_off, whole_product, without_noughts


class Rows:
    """Rows in steps, and which rows are made of them."""

    def __init__(self, headed, wide):
        self.wide = wide
        self.places = [head for head, _ in headed]
        self.steps = [row for _, row in headed]
        self.columns = [over_one_bottom([row[at] for row in self.steps]) for at in range(wide)]

    def has(self, rest):
        """Whether the row of a rest of INTEGERS is made of these rows."""
        if len(self.steps) == self.wide:
            return True
        return is_row_made(whole_row_of(rest, self.wide), self.places, self.columns)

    def rests(self):
        """The rows as polynomials of INTEGERS, each a multiple of its row."""
        return [without_noughts(over_one_bottom(row)[0][::-1]) for row in self.steps]


def whole_rest(worth, clock):
    """The rest of the polynomial (tops, bottom) modulo the clock, the same way."""
    left, bottom = worth
    left = without_noughts(left)
    while len(left) >= len(clock):
        left = without_noughts(taken_off(left, clock))
        bottom = bottom * clock[-1]
    return lowest(left, bottom)


def rest_like(tops, clock, prime):
    """A multiple of the rest modulo the clock, reckoned modulo the prime, or without one for 0 in its place."""
    left = without_noughts(shrunk(tops, prime))
    while len(left) >= len(clock):
        left = taken_off(left, clock)
        # Without a prime there is little to divide by on the way.
        left = without_noughts(shrunk(left, prime) if prime > 0 else left)
    return shrunk(left, prime)


def product_rest(first, second, clock, prime):
    """A multiple of the rest of the product, reckoned like this."""
    if not first or not second:
        return []
    return rest_like(whole_product(first, second), clock, prime)


def whole_row_of(rest, wide):
    """The row of a rest, from the greatest power down."""
    return [0] * (wide - len(rest)) + rest[::-1]


def hull_rows(rests, clock):
    """The Rows of the least room modulo the clock that holds all the rests."""
    for prime in moduli():
        found = tried_hull(rests, clock, prime)
        if found is not None:
            break
    return found


def tried_hull(rests, clock, prime):
    """The Rows, begun with the rests modulo the prime; None if there are more than these tell."""
    if shrunk(clock[-1:], prime) == [0]:
        return None
    wide = len(clock) - 1
    kept, factors = hull_products(rests, clock, prime)
    if len(kept) == wide:
        # So many unlike products are all that there is: none of the numbers of the rows needs to be reckoned.
        units = [(at, [Ratio(1 if place == at else 0) for place in range(wide)]) for at in range(wide)]
        return Rows(units, wide)
    polys = [[1]]
    for ahead, at in kept[1:]:
        polys.append(product_rest(polys[ahead], rests[at], clock, 0))
    rows = Rows(headed_steps([whole_row_of(one, wide) for one in polys]), wide)
    # Sums of these products are a room that holds all the rests if they have all rests, and all products by those
    # of which the products are.
    behind = [product_rest(one, rests[at], clock, 0) for at in factors for one in rows.rests()]
    return rows if all([rows.has(one) for one in [*rests, *behind]]) else None


def hull_products(rests, clock, prime):
    """Products of the rests, none a sum of multiples of others, of whose multiples all in the room are sums.

    Each is told as (place of a product ahead, place of a rest), the first one, 1, as (0, 0). Behind them stand the
    places of the rests that they are products of.
    """
    modulus = shrunk(clock, prime)
    short = [rest_like(one, modulus, prime) for one in rests]
    polys, kept, factors, heads = [[1]], [(0, 0)], [], {0: [1]}
    for at, one in enumerate(short):
        if not lowered_by(one, heads, prime):
            continue
        factors.append(at)
        waiting = [(ahead, at) for ahead in range(len(polys))]
        while waiting:
            ahead, place = waiting[0]
            waiting = waiting[1:]
            product = product_rest(polys[ahead], short[place], modulus, prime)
            left = lowered_by(product, heads, prime)
            if left:
                heads[len(left) - 1] = left
                polys.append(product)
                kept.append((ahead, place))
                waiting.extend([(len(polys) - 1, factor) for factor in factors])
    return kept, factors
