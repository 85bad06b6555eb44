"""Makings of what is made of makers."""

from fromplaces.counts import met_table
from fromplaces.ratios import Ratio, over_one_bottom
from fromplaces.wholes import lowest, taken_off, whole_product, without_noughts


class Builder:
    """The lines of a making, and the positions of what they are worth. It grows."""

    def __init__(self, frame):
        self.frame = frame
        self.built = []
        # For each of the core's polynomials, its products, and the made polynomial of a power: its position.
        self.gens = {}
        self.kept = []
        self.products = {0: 0}
        self.powers = {0: 0}

    def put_line(self, line):
        """The position of the line, which is the last one now."""
        self.built.append(line)
        return self.frame.many + len(self.built)

    def gen_place(self, at):
        """The position of the core's polynomial at this place, a sum of shares of 1 and the makers."""
        if at not in self.gens:
            line = [(place, 0, share) for place, share in enumerate(self.frame.shares[at]) if share.sign != 0]
            is_maker = len(line) == 1 and line[0][2] == Ratio(1)
            self.gens[at] = line[0][0] if is_maker else self.put_line(line)
        return self.gens[at]

    def product_place(self, place):
        """The position of the product at this place, 0 standing for 1."""
        if place not in self.products:
            first, second, _ = self.product_part(place, Ratio(1))
            self.products[place] = self.put_line([(first, second, Ratio(1))]) if first > 0 else second
        return self.products[place]

    def product_part(self, place, often):
        """The part of a line that is the product at this place so often."""
        ahead, at = self.kept[place - 1]
        return self.product_place(ahead), self.gen_place(at), often

    def core_often(self, place):
        """How often the core has the product at this place."""
        often = Ratio(1)
        while place > 0:
            place, at = self.kept[place - 1]
            often = often * self.frame.often[at]
        return often

    def add_leads(self, wanted):
        """Adds lines for the leads of these least met counts."""
        if not wanted:
            return
        inside = [count // self.frame.step for count in wanted]
        self.kept, shares = self.frame.core.shared(inside)
        for count, within, numbers in zip(wanted, inside, shares):
            # The lead has INTEGERS without a common divisor, also where it is one of the inner part.
            often = Ratio(self.frame.leads[count][-1], self.frame.core.leads[within][-1])
            parts = [(place, one) for place, one in enumerate(numbers, start=1) if one.sign != 0]
            line = [self.product_part(place, one * often * self.core_often(place)) for place, one in parts]
            self.powers[count] = self.put_line(line)

    def power_place(self, power, splits):
        """The position of what is made of this degree, a product as the splits tell it."""
        if power not in self.powers:
            self.powers[power] = self.put_line([self.power_part(power, Ratio(1), splits)])
        return self.powers[power]

    def power_part(self, power, often, splits):
        """The part of a line that is what is made of this degree so often."""
        if power in self.powers:
            return self.powers[power], 0, often
        one, more = splits[power]
        return self.power_place(one, splits), self.power_place(more, splits), often


def making_to(frame, poly):
    """A making that comes to a told polynomial that is made."""
    splits = power_splits(frame, len(poly) - 1)
    parts = power_parts(frame, splits, poly)
    builder = Builder(frame)
    builder.add_leads(used_leads(splits, [power for power, _ in parts]))
    builder.put_line([builder.power_part(power, often, splits) for power, often in parts])
    return builder.built


def making_of_degree(frame, count):
    """A making that comes to something of this met degree above 0."""
    splits = power_splits(frame, count)
    builder = Builder(frame)
    builder.add_leads(used_leads(splits, [count]))
    builder.put_line([builder.power_part(count, Ratio(1), splits)])
    return builder.built


def power_splits(frame, last):
    """The dict of met counts to the last one, least ones left out, with two others that add up to each."""
    least = frame.least()
    is_met = met_table(least, max(last, 0))
    splits = {}
    for power in range(1, last + 1):
        if is_met[power] and power not in frame.leads:
            one = [count for count in least if count < power and is_met[power - count]][0]
            splits[power] = (one, power - one)
    return splits


def power_parts(frame, splits, poly):
    """The tuples of a met count and a number: what is made of these degrees, so often, adds up to the polynomial."""
    polys = {0: [1], **frame.leads}
    for power, (one, more) in splits.items():
        polys[power] = whole_product(polys[one], polys[more])
    tops, bottom = over_one_bottom(poly)
    parts = []
    while tops:
        one = polys[len(tops) - 1]
        bottom = bottom * one[-1]
        parts.append((len(tops) - 1, Ratio(tops[-1], bottom)))
        tops, bottom = lowest(without_noughts(taken_off(tops, one)), bottom)
    return parts


def used_leads(splits, powers):
    """The sorted list of the least met counts of which these counts are put together by the splits."""
    used = []
    for power in powers:
        left = power
        while left in splits:
            one, left = splits[left]
            used.append(one)
        used.append(left)
    return [count for count in sorted(set(used)) if count > 0]
