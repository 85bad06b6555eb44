"""What makers of the common degree 1 make: their least met degrees, and something made of each."""

from fromplaces.counts import is_in_table, least_of, met_table, unmet
from fromplaces.lefts import left_of, lefts_of, taken
from fromplaces.ratios import over_one_bottom
from fromplaces.shares import LONG_BITS, MORE_PRODUCTS, most_bits, shared_out, shorter
from fromplaces.solved import headed_steps
from fromplaces.stairs import spanning, stair_degrees
from fromplaces.wholes import moduli, shrunk, whole_product


class Core:
    """Polynomials of INTEGERS of the common degree 1, by unlike rising degrees, without a number.

    Its leads are the dict of the least met degrees with the tops of something made of each, its kept the places
    of the products that these are made of; the prime served to find them.
    """

    def __init__(self, gens):
        self.gens = gens
        for prime in moduli():
            found = tried_leads(gens, prime)
            if found is not None:
                break
        self.leads, self.kept = found
        self.prime = prime

    def shared(self, wanted):
        """The tuple of places of products, and the list of the shares of these that each wanted lead is made of."""
        goals = [self.leads[count] for count in wanted]
        shares = shared_out(products(self.gens, self.kept), goals)
        if max([most_bits(numbers) for numbers in shares]) <= LONG_BITS:
            return self.kept, shares
        rests = [shrunk(gen, self.prime) for gen in self.gens]
        kept, extra = spanning(rests, list(self.leads), self.prime, MORE_PRODUCTS)
        polys = products(self.gens, [*kept, *extra])
        found = shared_out(polys[:len(kept)], [*goals, *polys[len(kept):]])
        return [*kept, *extra], [shorter(numbers, found[len(goals):]) for numbers in found[:len(goals)]]


def tried_leads(gens, prime):
    """The tuple of leads and kept, begun with the rests modulo the prime; None if these have other degrees."""
    rests = [shrunk(gen, prime) for gen in gens]
    if any([rest[-1] == 0 for rest in rests]):
        return None
    stairs = stair_degrees(rests, prime)
    if stairs is None:
        return None
    least = least_of([len(gens[0]) - 1] + [count for count in stairs if count > 0])
    kept, _ = spanning(rests, least, prime, 0)
    made = dict(headed_tops(products(gens, kept)))
    if not all([count in made for count in least]):
        return None
    leads = {count: made[count] for count in least}
    return (leads, kept) if are_all_made(gens, leads) else None


def products(gens, kept):
    """The polynomials that these places tell."""
    polys = [[1]]
    for ahead, at in kept:
        polys.append(whole_product(polys[ahead], gens[at]))
    return polys[1:]


def headed_tops(polys):
    """The steps of the polynomials, by falling powers, as tuples of the degree and the tops."""
    wide = max([len(one) for one in polys])
    rows = [[0] * (wide - len(one)) + one[::-1] for one in polys]
    found = []
    for head, row in headed_steps(rows):
        tops, _ = over_one_bottom(row[head:])
        found.append((wide - 1 - head, tops[::-1]))
    return found


def are_all_made(gens, leads):
    """Whether all that gens make are sums of what is taken to the counts that the leads meet."""
    # As they are worked out, these sums hold 1, and with each one its product by what is taken to the least degree.
    # So they hold all that gens make if they hold the products of each of gens by the first one of each rest modulo
    # this degree.
    least = sorted(list(leads))
    last = max([least[0] - 1, *unmet(least)]) + least[0]
    is_met = met_table(least, last)
    firsts = [count for count in range(last + 1) if is_met[count] and not is_in_table(is_met, count - least[0])]
    lefts = lefts_of(leads, last + len(gens[-1]) - 1)
    for gen in gens:
        for count in firsts:
            tops, _ = left_of(whole_product(gen, taken(lefts, count)), 1, lefts)
            if tops:
                return False
    return True
