"""The ways in which a COUNT is a sum of told counts, their lots, and turning counts."""

from fromplaces.basics import check_many, is_count, is_list
from fromplaces.counts import check_counts, common_count, is_in_table, met_table, unmet
from fromplaces.errors import TooMany

MOST_MANY = 200
MOST_WAYS = 400
MOST_TURNED = 24


def ways(counts, many):
    """The sorted list of all ways: TooMany if there are more than 400."""
    check_counts(counts)
    check_many(many, 0, MOST_MANY)
    if way_number(counts, many) > MOST_WAYS:
        raise TooMany("ways", MOST_WAYS)
    begun = [([], many)]
    for one, can_follow in zip(counts, following(counts, many)):
        begun = [
            ([*way, often], left - often * one)
            for way, left in begun
            for often in range(left // one + 1)
            if can_follow[left - often * one]
        ]
    return [way for way, _ in begun]


def a_way(counts, many):
    """The last one of the sorted ways, None if there are none."""
    check_counts(counts)
    check_many(many, 0, MOST_MANY)
    way, left = [], many
    for one, can_follow in zip(counts, following(counts, many)):
        fitting = [often for often in range(left // one + 1) if can_follow[left - often * one]]
        if not fitting:
            return None
        way.append(fitting[-1])
        left = left - fitting[-1] * one
    return way


def is_way(counts, many, value):
    """Whether the value is a way of this COUNT."""
    check_counts(counts)
    check_many(many, 0, MOST_MANY)
    if not is_list(value) or len(value) != len(counts) or not all([is_count(often) for often in value]):
        return False
    return sum([often * one for often, one in zip(value, counts)]) == many


def lots_of_ways(counts, many):
    """The sorted list of the lots, each the sorted list of its ways: TooMany if there are more than 400 ways."""
    lots = []
    for way in ways(counts, many):
        near = [lot for lot in lots if any([are_neighbours(way, one) for one in lot])]
        apart = [lot for lot in lots if lot not in near]
        lots = [*apart, [way, *[one for lot in near for one in lot]]]
    return sorted([sorted(lot) for lot in lots])


def turning_counts(counts):
    """The sorted list of the COUNTS of two lots or more: TooMany if a told count is above 24."""
    check_counts(counts)
    if max(counts) > MOST_TURNED:
        raise TooMany("count", MOST_TURNED)
    last = last_to_turn(counts)
    table = met_table(counts, last)
    return [count for count in range(1, last + 1) if lot_number(counts, count, table) > 1]


def way_number(counts, many):
    """How many ways there are."""
    numbers = [1] + [0] * many
    for one in counts:
        for count in range(one, many + 1):
            numbers[count] += numbers[count - one]
    return numbers[many]


def following(counts, many):
    """For each position the table of what is met by the told counts behind it."""
    return [met_table(counts[at + 1:], many) for at in range(len(counts))]


def are_neighbours(way, other):
    """Whether some position is above 0 in both ways."""
    return any([one > 0 and two > 0 for one, two in zip(way, other)])


def last_to_turn(counts):
    """A COUNT above which there is no turning count."""
    shared = common_count(counts)
    missing = unmet([one // shared for one in counts])
    # Where all multiples of the common count are met, its greatest unmet multiple goes for one below 0.
    last_unmet = missing[-1] if missing else -1
    return sum(sorted(counts)[-2:]) + last_unmet * shared


def lot_number(counts, count, table):
    """How many lots a count above 0 has, by the table of what is met."""
    # All ways with a told position above 0 are in one lot, and so are two positions' if one way has both.
    lots = []
    for at, one in enumerate(counts):
        left = count - one
        if left >= 0 and table[left]:
            near = [lot for lot in lots if any([is_in_table(table, left - counts[place]) for place in lot])]
            apart = [lot for lot in lots if lot not in near]
            lots = [*apart, [at, *[place for lot in near for place in lot]]]
    return len(lots)
