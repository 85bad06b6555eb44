"""Which degrees there are in what polynomials make, and which products of them have these degrees.

All of it is reckoned with polynomials of INTEGERS, of the common degree 1, without a number, by rising degrees,
modulo a prime, or without one for 0 in its place. A product stands for all its multiples: heads are not made 1.
"""

from fromplaces.wholes import lowered_by, shrunk, taken_off, whole_product, without_noughts


def stair_degrees(gens, prime):
    """For each rest modulo the least degree the least degree there is that has it; None if one is in no degree."""
    many = len(gens[0]) - 1
    found = {0: [[1]]}
    waiting = [list(gen) for gen in gens[1:]]
    # What is found are polynomials with all their products by powers of the first one. If the product of each by
    # each of gens is a sum of such, they are all that is made.
    while waiting:
        waiting = sorted(waiting, key=len)
        one = lowered(waiting[0], found, gens[0], prime)
        waiting = waiting[1:]
        if one:
            place = (len(one) - 1) % many
            higher = found.get(place, [])
            found[place] = [one]
            waiting.extend(higher[:1])
            waiting.extend([shrunk(whole_product(one, gen), prime) for gen in gens[1:]])
    if len(found) < many:
        return None
    return [len(found[place][0]) - 1 for place in range(many)]


def lowered(one, found, first, prime):
    """The polynomial, taken off by what is found as far as its head goes; products by powers of the first are kept."""
    many = len(first) - 1
    while one:
        steps = found.get((len(one) - 1) % many, [])
        if not steps or len(steps[0]) > len(one):
            return one
        often = (len(one) - len(steps[0])) // many
        while len(steps) <= often:
            steps.append(shrunk(whole_product(steps[-1], first), prime))
        one = without_noughts(shrunk(taken_off(one, steps[often]), prime))
    return one


def spanning(gens, wanted, prime, spares):
    """Products of gens of rising degrees, none a sum of multiples of others, among whose sums are all wanted degrees.

    A product is told by the tuple of two places: of a product ahead, counted from 1, 0 standing for 1, and of one
    of gens. Told are the list of them, and the list of the next ones, as many as spares tells, that are such sums.
    """
    places = {tuple([0] * len(gens)): 0}
    polys, kept, extra = [[1]], [], []
    heads, by_weight = {}, {0: [tuple([0] * len(gens))]}
    weight, is_done = 0, False
    while len(extra) < spares or not is_done:
        weight += 1
        by_weight[weight] = []
        candidates = next_powers(by_weight, weight, gens, places)
        for powers, ahead, at in candidates:
            one = shrunk(whole_product(polys[ahead], gens[at]), prime)
            left = lowered_by(one, heads, prime) if are_parts_kept(powers, places) else []
            if left:
                heads[len(left) - 1] = left
                polys.append(one)
                kept.append((ahead, at))
                places[powers] = len(kept)
                by_weight[weight].append(powers)
            elif is_done:
                extra.append((ahead, at))
        is_done = all([degree in heads for degree in wanted])
    return kept, extra[:spares]


def next_powers(by_weight, weight, gens, places):
    """The products of this degree that are kept ones times one of gens, as (powers, place ahead, place in gens)."""
    found = []
    for at, gen in enumerate(gens):
        for powers in by_weight.get(weight - len(gen) + 1, []):
            if not any(powers[at + 1:]):
                found.append((moved_power(powers, at, 1), places[powers], at))
    return found


def are_parts_kept(powers, places):
    """Whether all products are kept of which this one is one times one of gens."""
    # If one is a sum of multiples of products ahead of it, so is this one.
    parts = [moved_power(powers, at, -1) for at, power in enumerate(powers) if power > 0]
    return all([part in places for part in parts])


def moved_power(powers, at, more):
    """The powers with the one at this place greater by so much."""
    return tuple([power + more if place == at else power for place, power in enumerate(powers)])
