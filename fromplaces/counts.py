"""What is met by told counts: sums of them, least ones, gaps."""

from math import gcd

from fromplaces.basics import check_many, is_count, is_list
from fromplaces.errors import InvalidCounts, NotAll

MOST_TOLD = 8
GREATEST_TOLD = 48
MOST_MANY = 400


def common_count(counts):
    """The greatest count that divides all told ones."""
    check_counts(counts)
    found = 0
    for one in counts:
        found = gcd(found, one)
    return found


def is_met(counts, many):
    """Whether the COUNT is a sum of told counts."""
    check_counts(counts)
    check_many(many, 0, MOST_MANY)
    return met_table(counts, many)[many]


def met(counts, many):
    """The sorted list of what is met, to this COUNT."""
    check_counts(counts)
    check_many(many, 0, MOST_MANY)
    return [count for count, is_one in enumerate(met_table(counts, many)) if is_one]


def least_counts(counts):
    """The sorted list of the told counts that are no sum of other met ones."""
    check_counts(counts)
    return least_of(counts)


def gaps(counts):
    """The sorted list of the COUNTS that are not met: NotAll if the common count is above 1."""
    if common_count(counts) > 1:
        raise NotAll()
    return unmet(counts)


def greatest_gap(counts):
    """The greatest gap, None if there are none: NotAll if the common count is above 1."""
    missing = gaps(counts)
    return missing[-1] if missing else None


def is_mirrored(counts):
    """Whether gaps mirror what is met below the greatest gap: NotAll if the common count is above 1."""
    missing = gaps(counts)
    if not missing:
        return True
    last = missing[-1]
    return all([(one in missing) != (last - one in missing) for one in range(last + 1)])


def is_counts(value):
    """Whether the value is a list of 1 to 8 COUNTS from 1 to 48."""
    if not is_list(value) or len(value) < 1 or len(value) > MOST_TOLD:
        return False
    return all([is_count(one) and 1 <= one <= GREATEST_TOLD for one in value])


def check_counts(counts):
    """Raises InvalidCounts unless counts are told counts."""
    if not is_counts(counts):
        raise InvalidCounts(counts)


def met_table(counts, many):
    """For each COUNT to many whether it is met, a list of bools; of no counts 0 alone is met."""
    table = [True]
    for count in range(1, many + 1):
        table.append(is_next_met(counts, table, count))
    return table


def is_in_table(table, count):
    """Whether the INTEGER is met, by the table; one below 0 is not."""
    return count >= 0 and table[count]


def is_next_met(counts, table, count):
    """Whether the count is met, by a table that tells it of all lesser ones."""
    return any([one <= count and table[count - one] for one in counts])


def least_of(counts):
    """The sorted list of the counts that are no sum of other met ones."""
    found = []
    for one in sorted(set(counts)):
        if not met_table(found, one)[one]:
            found.append(one)
    return found


def unmet(counts):
    """The sorted gaps of counts of the common count 1."""
    # Behind as many met counts in a row as the least told one tells, each is one of them and some of it.
    wanted = min(counts)
    table, found, in_a_row = [True], [], 1
    while in_a_row < wanted:
        count = len(table)
        table.append(is_next_met(counts, table, count))
        if table[count]:
            in_a_row += 1
        else:
            in_a_row = 0
            found.append(count)
    return found
