"""The clock of a house, by what is left of the powers of t."""

from fromplaces.lefts import left_of
from fromplaces.ratios import Ratio, over_one_bottom
from fromplaces.solved import cleared, headed_steps, whole_row
from fromplaces.wholes import moduli


def clock_by(lefts, gaps, many, most):
    """The polynomial of the least degree with the head 1 nothing of whose multiples is left, told.

    None if its degree is above most. Lefts are what is left of the powers to most and many; gaps are all powers
    that are not met; a polynomial is one if nothing is left of it times the powers below many.
    """
    if not gaps:
        return [Ratio(1)]
    table = [[left_number(left, gap) for left in lefts] for gap in gaps]
    rows = [whole_row(numbers[at:at + most + 1]) for numbers in table for at in range(many)]
    for prime in moduli():
        done = cleared(rows, most + 1, prime)
        if len(done) > most:
            return None
        found = tried_clock([rows[place] for _, place, _ in done])
        if found is not None and is_clock_by(found, lefts, many):
            break
    return found


def left_number(left, gap):
    """The number at the gap in what is left."""
    tops, bottom = left
    return Ratio(tops[gap], bottom) if gap < len(tops) else Ratio(0)


def tried_clock(rows):
    """The polynomial with the head 1, its degree as great as rows are many, whose numbers all rows lead to 0.

    None if it has a lesser degree.
    """
    steps = headed_steps([row[:len(rows) + 1] for row in rows])
    if [head for head, _ in steps] != list(range(len(rows))):
        return None
    return [-row[len(rows)] for _, row in steps] + [Ratio(1)]


def is_clock_by(clock, lefts, many):
    """Whether nothing is left of the told polynomial times the powers below many."""
    tops, bottom = over_one_bottom(clock)
    return not any([left_of([0] * at + tops, bottom, lefts)[0] for at in range(many)])
