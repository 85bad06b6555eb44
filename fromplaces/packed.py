"""Sums of products of polynomials of INTEGERS, each polynomial as one great INTEGER.

A polynomial's worth at a power of 2 that is great enough tells all its numbers: so a product is one product of
INTEGERS, which Python does fast, in the place of one for each two numbers.
"""

from fromplaces.wholes import without_noughts


def packed(wholes, slot):
    """The polynomial's worth at 2 to the slot."""
    parts, wide = wholes, slot
    while len(parts) > 1:
        parts = [low + (high << wide) for low, high in zip(parts[::2], [*parts[1::2], 0])]
        wide = 2 * wide
    return parts[0] if parts else 0


def unpacked(number, slot, size):
    """The polynomial of this worth at 2 to the slot, of so many numbers, each less than half of that without sign."""
    # With half of it added to each number none is below 0, and each one stands in bits of its own.
    wide, half, all_halves = slot, 1 << (slot - 1), 1 << (slot - 1)
    while wide < slot * size:
        all_halves = all_halves + (all_halves << wide)
        wide = 2 * wide
    parts = [number + all_halves]
    while wide > slot:
        wide = wide // 2
        mask = (1 << wide) - 1
        parts = [half_part for part in parts for half_part in (part & mask, part >> wide)]
    return [part - half for part in parts]


def sum_of_products(parts, polys):
    """The sum of number times polys[first] times polys[second] for the (first, second, number), none of them nought."""
    if not parts:
        return []
    sizes = {place: most_bits(polys[place]) for part in parts for place in part[:2]}
    longest = max([len(polys[place]) for place in sizes])
    widest = max([sizes[first] + sizes[second] + number.bit_length() for first, second, number in parts])
    slot = widest + (longest * len(parts)).bit_length() + 2
    shut = {place: packed(polys[place], slot) for place in sizes}
    behind = {}
    for first, second, number in parts:
        behind[first] = behind.get(first, 0) + number * shut[second]
    found = sum([shut[first] * more for first, more in behind.items()])
    return without_noughts(unpacked(found, slot, 2 * longest))


def most_bits(wholes):
    """How many bits the greatest one has, without its sign."""
    return max([whole.bit_length() for whole in wholes])
