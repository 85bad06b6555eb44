"""Values of the sorts, and their written forms."""

from fromplaces.basics import is_list
from fromplaces.errors import InvalidSort, InvalidValue
from fromplaces.makers import is_makers
from fromplaces.makings import MOST_LINES, is_line
from fromplaces.polys import is_poly, told
from fromplaces.ratios import is_number
from fromplaces.rooms import Room

SORTS = ("number", "poly", "makers", "making", "room")
# How many positions a line of a written making may take that are not those of lines: of 1, and of four makers.
FIRST_POSITIONS = 5


def sorts():
    """The list of the words of the sorts."""
    return list(SORTS)


def is_of_sort(sort, value):
    """Whether the value is one of this sort."""
    check_sort(sort)
    if sort == "number":
        return is_number(value)
    if sort == "poly":
        return is_poly(value)
    if sort == "makers":
        return is_makers(value)
    if sort == "making":
        return is_written_making(value)
    return isinstance(value, Room)


def written(sort, value):
    """The written form of the value: InvalidValue unless it is one of this sort."""
    if not is_of_sort(sort, value):
        raise InvalidValue(value)
    if sort == "number":
        lines = [written_line(sort, [value])]
    elif sort == "poly":
        lines = [written_line(sort, told(value))]
    elif sort == "makers":
        lines = [sort, *[written_line("maker", told(poly)) for poly in value]]
    elif sort == "making":
        lines = [sort, *[line for parts in value for line in making_lines(parts)]]
    else:
        lines = [written_line("clock", value.clock()), *[written_line("row", row) for row in value.rows()]]
    return "".join([f"{line}\n" for line in lines])


def check_sort(sort):
    """Raises InvalidSort unless it is the word of a sort."""
    if sort not in SORTS:
        raise InvalidSort(sort)


def is_written_making(value):
    """Whether the value is lines whose positions are below so many, and one more with each line."""
    if not is_list(value) or len(value) < 1 or len(value) > MOST_LINES:
        return False
    return all([is_line(line, at + FIRST_POSITIONS) for at, line in enumerate(value)])


def written_line(word, numbers):
    """The line of this word and the numbers."""
    return " ".join([word, *[str(number) for number in numbers]])


def making_lines(parts):
    """The lines that tell one line of a making."""
    return ["line", *[written_line("times", part) for part in parts]]
