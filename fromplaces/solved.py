"""Rows of numbers: their steps, their kernel, and solutions."""

from fromplaces.basics import check_many, is_list
from fromplaces.errors import InvalidGoals, InvalidRows
from fromplaces.ratios import Ratio, as_ratio, is_number, over_one_bottom
from fromplaces.wholes import fractions_of, inverse, primes, primitive, shrunk

MOST_ROWS = 60


def steps(rows):
    """The steps of the rows, a list of lists."""
    check_rows(rows)
    return [row for _, row in headed_steps([whole_row(one) for one in rows])]


def kernel(rows, wide):
    """The kernel of the rows of this width, a list of lists in steps."""
    check_rows(rows)
    check_many(wide, 1, MOST_ROWS)
    if rows and len(rows[0]) != wide:
        raise InvalidRows(rows)
    # In steps from the right each row's head is its last number. Where no row ends a list of the kernel may
    # have any number, and only numbers further right follow from it: lists with 1 at one such place and 0 at
    # the others stand in steps.
    turned = headed_steps([whole_row(row)[::-1] for row in rows])
    ends = [(wide - 1 - head, row[::-1]) for head, row in turned]
    free = [at for at in range(wide) if at not in [end for end, _ in ends]]
    return [kernel_list(ends, at, wide) for at in free]


def solution(rows, goals):
    """A solution of the rows with these goals, None if there is none."""
    check_goals(rows, goals)
    wide = len(rows[0])
    longer = [whole_row([*row, goal]) for row, goal in zip(rows, goals)]
    found = [Ratio(0)] * wide
    for head, step in headed_steps(longer):
        if head == wide:
            return None
        found[head] = step[wide]
    return found


def is_solution(rows, goals, value):
    """Whether the value is a solution of the rows with these goals."""
    check_goals(rows, goals)
    if not is_numbers(value) or len(value) != len(rows[0]):
        return False
    return all([led(row, value) == as_ratio(goal) for row, goal in zip(rows, goals)])


def is_numbers(value):
    """Whether the value is a list of NUMBERS."""
    return is_list(value) and all([is_number(one) for one in value])


def is_rows(value):
    """Whether the value is rows: 0 to 60 lists, alike long, of 1 to 60 NUMBERS."""
    if not is_list(value) or len(value) > MOST_ROWS or not all([is_numbers(row) for row in value]):
        return False
    return all([1 <= len(row) <= MOST_ROWS and len(row) == len(value[0]) for row in value])


def check_rows(rows):
    """Raises InvalidRows unless rows are rows."""
    if not is_rows(rows):
        raise InvalidRows(rows)


def check_goals(rows, goals):
    """Raises InvalidRows unless rows are one row or more, InvalidGoals unless goals are one NUMBER for each."""
    check_rows(rows)
    if not rows:
        raise InvalidRows(rows)
    if not is_numbers(goals) or len(goals) != len(rows):
        raise InvalidGoals(goals)


def led(row, numbers):
    """What the row leads the numbers to, a Ratio."""
    return Ratio.total([one * two for one, two in zip(row, numbers)])


def kernel_list(ends, at, wide):
    """The list that all rows lead to 0, with 1 at this place and 0 at all others where no row ends."""
    found = [Ratio(0)] * wide
    found[at] = Ratio(1)
    for end, row in ends:
        found[end] = -row[at]
    return found


def whole_row(row):
    """The row times such a number that it is of INTEGERS without a common divisor."""
    tops, _ = over_one_bottom(row)
    return primitive(tops)


def headed_steps(rows):
    """The steps of rows of INTEGERS, a list of the tuples of a row's head's place and the row."""
    for prime in primes():
        found = tried_steps(rows, prime)
        if found is not None:
            return found
    return [(head, [Ratio(one, row[head]) for one in row]) for head, _, row in cleared(rows, width(rows), 0)]


def width(rows):
    """How many numbers each row has, 0 of no rows."""
    return len(rows[0]) if rows else 0


def tried_steps(rows, prime):
    """The steps, begun with the rests modulo the prime; None if these have too few steps."""
    wide = width(rows)
    # What stands behind the rows tells how often each one is taken.
    units = [[1 if at == place else 0 for at in range(len(rows))] for place in range(len(rows))]
    done = cleared([row + unit for row, unit in zip(rows, units)], wide, prime)
    heads = [head for head, _, _ in done]
    places = [place for _, place, _ in done]
    back = [back_row(row, head, [wide + place for place in places], prime) for head, _, row in done]
    columns = step_columns([rows[place] for place in places], heads, back, prime)
    # There are no fewer steps than modulo the prime: so as many, of which all rows are made, are the steps.
    others = [row for place, row in enumerate(rows) if place not in places]
    if not are_in_steps(heads, columns) or not all([is_row_made(row, heads, columns) for row in others]):
        return None
    return [(head, [Ratio(tops[k], bottom) for tops, bottom in columns]) for k, head in enumerate(heads)]


def cleared(rows, wide, prime):
    """Rows in steps but for the heads' worth, modulo the prime, without one for 0 in its place.

    Heads are looked for at the first places alone, as many as wide tells. Told are the tuples of the
    head's place, the place of the row that was taken for it, and the row; the other rows come to noughts.
    """
    left = [(place, shrunk(row, prime)) for place, row in enumerate(rows)]
    done = []
    for at in range(wide):
        found = [k for k, (_, row) in enumerate(left) if row[at] != 0]
        if found:
            first = found[0]
            taken, chosen = left[first]
            others = left[:first] + left[first + 1:]
            left = [(place, cleared_row(row, chosen, at, prime)) for place, row in others]
            done = [(head, place, cleared_row(row, chosen, at, prime)) for head, place, row in done]
            done.append((at, taken, chosen))
    return done


def cleared_row(row, chosen, at, prime):
    """The row, multiplied, less such a multiple of the chosen one that it has 0 at this place."""
    many, head = row[at], chosen[at]
    if many == 0:
        return row
    return shrunk([one * head - many * two for one, two in zip(row, chosen)], prime)


def back_row(row, head, places, prime):
    """The row's numbers at these places, multiplied modulo the prime as makes its head 1."""
    back = inverse(row[head], prime)
    return [row[place] * back % prime for place in places]


def step_columns(rows, heads, back, prime):
    """The columns of the steps of rows, as many as heads, each as (tops, bottom).

    What stands in the rows at the heads is led back to heads of 1 by the rows of back, modulo the prime.
    """
    square = [[row[head] for head in heads] for row in rows]
    columns = []
    for at in range(width(rows)):
        if at in heads:
            columns.append(([1 if head == at else 0 for head in heads], 1))
        else:
            columns.append(lifted(square, back, [row[at] for row in rows], prime))
    return columns


def lifted(square, back, goals, prime):
    """The one solution, as (tops, bottom), of as many rows as numbers, with INTEGERS for goals.

    Its rests modulo higher and higher powers of the prime are found digit by digit, until they tell it.
    """
    found, left, power = [0] * len(goals), goals, 1
    digits, next_try = 0, 1
    while any(left):
        digit = [whole_led(row, left) % prime for row in back]
        found = [one + two * power for one, two in zip(found, digit)]
        left = [(goal - whole_led(row, digit)) // prime for row, goal in zip(square, left)]
        power = power * prime
        digits += 1
        if digits == next_try:
            next_try = 2 * digits
            fractions = fractions_of(found, power)
            if fractions is not None and are_led(square, fractions, goals):
                return fractions
    return found, 1


def are_led(square, fractions, goals):
    """Whether the rows lead the fractions, told as (tops, bottom), to the goals."""
    tops, bottom = fractions
    return all([whole_led(row, tops) == goal * bottom for row, goal in zip(square, goals)])


def whole_led(row, numbers):
    """What the row leads the numbers to, all of them INTEGERS."""
    return sum([one * two for one, two in zip(row, numbers)])


def are_in_steps(heads, columns):
    """Whether nothing but noughts stands ahead of each head; modulo the prime it does."""
    return all([head <= at or top == 0 for at, (tops, _) in enumerate(columns) for head, top in zip(heads, tops)])


def is_row_made(row, heads, columns):
    """Whether the row is made of rows in steps, told by the places of their heads and their columns."""
    often = [row[head] for head in heads]
    return all([whole_led(often, tops) == one * bottom for one, (tops, bottom) in zip(row, columns)])
