"""What is worked out once from makers: their lean form, the inner part, something made of each least met degree."""

from fromplaces.cores import Core
from fromplaces.inner import greatest_inner, outer_by
from fromplaces.lefts import lefts_of, taken_poly
from fromplaces.makers import told_makers
from fromplaces.parts import whole_poly
from fromplaces.polys import added
from fromplaces.ratios import Ratio, over_one_bottom
from fromplaces.wholes import whole_put_in


class Frame:
    """Makers as polynomials of their inner part, which then have the common degree 1.

    The shares are the lists of how often 1 and the makers are added up to each of their lean polynomials. The core
    has these, each so often, as polynomials of the inner part. The leads are the dict of the least met counts
    with something made of each.
    """

    def __init__(self, makers):
        known = told_makers(makers)
        self.many = len(known)
        lean = lean_polys(known)
        self.inner = greatest_inner([poly for poly, _ in lean])
        self.step = len(self.inner) - 1
        outers = [outer_by(poly, self.inner) for poly, _ in lean]
        self.core = Core([whole_poly(one) for one in outers])
        self.shares = [shares for _, shares in lean]
        self.often = [Ratio(gen[-1]).over(one[-1]) for gen, one in zip(self.core.gens, outers)]
        tops, bottom = over_one_bottom(self.inner)
        self.leads = {
            count * self.step: whole_put_in(one, tops, bottom) for count, one in self.core.leads.items()
        }

    def lefts(self, last):
        """The list of what is left of each power of t, to the last one."""
        return lefts_of(self.leads, last)

    def least(self):
        """The least met counts, rising."""
        return sorted(list(self.leads))

    def base(self):
        """The full base, a list of told polynomials."""
        least = self.least()
        lefts = self.lefts(least[-1])
        return [taken_poly(lefts, count) for count in least]


def lean_polys(known):
    """Polynomials of unlike rising degrees, without numbers, that make what told makers make.

    Each stands in a tuple with its shares: how often 1 and the makers, in sequence, are added up to it.
    """
    kept = {}
    for at, poly in enumerate(known):
        shares = [Ratio(1 if place == at + 1 else 0) for place in range(len(known) + 1)]
        shares[0] = -poly[0]
        one = [Ratio(0), *poly[1:]]
        while len(one) > 1 and len(one) in kept:
            other, other_shares = kept[len(one)]
            often = -one[-1].over(other[-1])
            one = added(one, [number * often for number in other])
            shares = [share + more * often for share, more in zip(shares, other_shares)]
        if len(one) > 1:
            kept[len(one)] = (one, shares)
    return [kept[size] for size in sorted(list(kept))]
