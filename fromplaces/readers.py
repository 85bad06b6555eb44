"""What is written, read again."""

from fromplaces.errors import InvalidText
from fromplaces.makers import MOST_MAKERS, is_makers
from fromplaces.makings import MOST_LINES, MOST_PARTS
from fromplaces.polys import MOST_DEGREE
from fromplaces.ratios import Ratio
from fromplaces.rooms import headed_rows, is_clock, is_room, room_by
from fromplaces.signs import count_from, number_from, numbers_from
from fromplaces.texts import FIRST_POSITIONS


def read(text):
    """The tuple of the sort and the value of this written form: InvalidText with the wrong line, 0 for no string."""
    if not isinstance(text, str):
        raise InvalidText(0)
    *ended, last = text.split("\n")
    lines = [line.split(" ") for line in ended]
    # A last line without a line feed is a wrong one; lines lack where the value is None.
    if not lines:
        raise InvalidText(1)
    word = lines[0][0]
    if word not in READERS:
        raise InvalidText(1)
    reader = READERS[word]
    value = reader(lines)
    if value is None or last != "":
        raise InvalidText(len(lines) + 1)
    return "room" if word == "clock" else word, value


def read_number(lines):
    """The NUMBER."""
    found = number_from(lines[0][1]) if len(lines[0]) == 2 else None
    if found is None:
        raise InvalidText(1)
    check_done(lines)
    return found


def read_poly(lines):
    """The polynomial."""
    found = poly_from(lines[0])
    if found is None:
        raise InvalidText(1)
    check_done(lines)
    return found


def read_makers(lines):
    """The makers, None if there are none."""
    check_alone(lines[0])
    found = []
    for number, words in enumerate(lines[1:], start=2):
        poly = poly_from(words) if words[0] == "maker" else None
        if not is_makers([poly]) or len(found) == MOST_MAKERS:
            raise InvalidText(number)
        found.append(poly)
    return found if found else None


def read_making(lines):
    """The lines of the making, None if there are none."""
    check_alone(lines[0])
    found = []
    for number, words in enumerate(lines[1:], start=2):
        if words == ["line"] and len(found) < MOST_LINES:
            found.append([])
        else:
            part = part_from(words, len(found) - 1 + FIRST_POSITIONS)
            if part is None or not found or len(found[-1]) == MOST_PARTS:
                raise InvalidText(number)
            found[-1].append(part)
    return found if found else None


def read_room(lines):
    """The Room, None if the rows are not those of a room."""
    clock = poly_from(lines[0])
    if not is_clock(clock) or clock[-1] != Ratio(1):
        raise InvalidText(1)
    rows = []
    for number, words in enumerate(lines[1:], start=2):
        row = numbers_from(words[1:]) if words[0] == "row" else None
        if row is None or len(row) != len(clock) - 1 or headed_rows([*rows, row]) is None:
            raise InvalidText(number)
        rows.append(row)
    return room_by(clock, rows) if is_room(clock, rows) else None


READERS = {
    "number": read_number, "poly": read_poly, "makers": read_makers, "making": read_making, "clock": read_room,
}


def check_done(lines):
    """Raises InvalidText if there is a line behind the first one."""
    if len(lines) > 1:
        raise InvalidText(2)


def check_alone(words):
    """Raises InvalidText unless the first line is one word."""
    if len(words) > 1:
        raise InvalidText(1)


def poly_from(words):
    """The told polynomial of the words behind the first one, None if they are none."""
    found = numbers_from(words[1:])
    if found is None or len(found) > MOST_DEGREE + 1 or (found and found[-1].sign == 0):
        return None
    return found


def part_from(words, many):
    """The part of a line of a making, its positions below many; None if the words are none."""
    if len(words) != 4 or words[0] != "times":
        return None
    first, second, number = count_from(words[1]), count_from(words[2]), number_from(words[3])
    if first is None or second is None or number is None or first >= many or second >= many:
        return None
    return first, second, number
