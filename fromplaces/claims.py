"""Claims of makers, their contraries, and the papers that show them."""

from fromplaces.basics import copied, is_count, is_list
from fromplaces.built import making_of_degree, making_to
from fromplaces.counts import met_table
from fromplaces.errors import InvalidClaim
from fromplaces.frames import Frame
from fromplaces.kept import gap_room, is_kept_apart, kept_apart
from fromplaces.made import MOST_LEFT, is_made, is_making_of, left_by, making_of
from fromplaces.makers import is_makers, told_makers
from fromplaces.makings import worths_of
from fromplaces.polys import degree, is_poly, told, worth
from fromplaces.ratios import is_number
from fromplaces.rooms import Room

WORDS = (("made", "kept"), ("all", "tied"), ("within", "beyond"), ("joint", "apart"), ("met", "gap"))
GREATEST_COUNT = 19
# The polynomial t.
TIME = (0, 1)


def words():
    """The list of the tuples of a word and that of its contrary."""
    return list(WORDS)


def is_claim(value):
    """Whether the value is a claim."""
    if not isinstance(value, tuple) or len(value) < 2:
        return False
    word, some, *parts = value
    if not is_makers(some):
        return False
    if word in ("all", "tied"):
        return len(parts) == 0
    if word in ("joint", "apart"):
        return len(parts) == 2 and all([is_number(one) for one in parts])
    if len(parts) != 1:
        return False
    part = parts[0]
    if word in ("made", "kept"):
        return is_poly(part) and degree(part) <= MOST_LEFT
    if word in ("within", "beyond"):
        return is_makers(part)
    return word in ("met", "gap") and is_count(part) and 1 <= part <= GREATEST_COUNT


def is_true(claim):
    """Whether the claim is true."""
    check_claim(claim)
    return is_first_true(claim) == (claim[0] in [one for one, _ in WORDS])


def contrary(claim):
    """The contrary claim, the same parts in new lists and tuples."""
    check_claim(claim)
    return (other_word(claim[0]), *copied(claim[1:]))


def paper_of(claim):
    """A paper of the claim; None if it is not true, or has none."""
    check_claim(claim)
    word, makers, *parts = claim
    if word == "made":
        return making_of(makers, parts[0])
    if word == "kept":
        return kept_apart(makers, parts[0])
    if word == "all":
        return making_of(makers, TIME)
    if word == "tied":
        return kept_apart(makers, TIME)
    if word == "within":
        return makings_of_all(makers, parts[0])
    if word == "beyond":
        return room_beyond(makers, parts[0])
    if word == "apart":
        return place_apart(makers, parts[0], parts[1])
    if word == "met":
        return making_met(makers, parts[0])
    return gap_room(makers, parts[0]) if word == "gap" else None


def is_paper_of(claim, value):
    """Whether the value is a paper of the claim."""
    check_claim(claim)
    word, makers, *parts = claim
    if word == "made":
        return is_making_of(makers, parts[0], value)
    if word == "kept":
        return is_kept_apart(makers, parts[0], value)
    if word == "all":
        return is_making_of(makers, TIME, value)
    if word == "tied":
        return is_kept_apart(makers, TIME, value)
    if word == "within":
        return are_makings(makers, parts[0], value)
    if word == "beyond":
        return is_room_beyond(makers, parts[0], value)
    if word == "apart":
        return is_place_apart(makers, parts[0], parts[1], value)
    if word == "met":
        return is_making_met(makers, parts[0], value)
    return word == "gap" and is_gap_room(makers, parts[0], value)


def check_claim(claim):
    """Raises InvalidClaim unless it is a claim."""
    if not is_claim(claim):
        raise InvalidClaim(claim)


def other_word(word):
    """The other word of its line."""
    return [other for one, other in [*WORDS, *[(second, first) for first, second in WORDS]] if one == word][0]


def is_first_true(claim):
    """Whether what the first word of the claim's line says of its parts is true."""
    word, makers, *parts = claim
    if word in ("made", "kept"):
        return is_made(makers, parts[0])
    if word in ("all", "tied"):
        return is_made(makers, TIME)
    if word in ("within", "beyond"):
        return beyond_places(makers, Frame(parts[0])) == []
    if word in ("joint", "apart"):
        return place_apart(makers, parts[0], parts[1]) is None
    return is_degree_met(Frame(makers), parts[0])


def beyond_places(makers, frame):
    """The positions of the makers that are not made of the frame's."""
    return [at for at, one in enumerate(told_makers(makers)) if left_by(frame, one) != []]


def makings_of_all(makers, others):
    """The list of makings of the others, one for each of the makers; None if one is not made."""
    frame = Frame(others)
    if beyond_places(makers, frame):
        return None
    return [making_to(frame, one) for one in told_makers(makers)]


def are_makings(makers, others, value):
    """Whether the value is a list of makings of the others that come to the makers in sequence."""
    if not is_list(value) or len(value) != len(makers):
        return False
    return all([is_making_of(others, one, making) for one, making in zip(makers, value)])


def room_beyond(makers, others):
    """The tuple of the position of a maker and a Room that keeps it apart from the others; None if all are made."""
    places = beyond_places(makers, Frame(others))
    return (places[0], kept_apart(others, makers[places[0]])) if places else None


def is_room_beyond(makers, others, value):
    """Whether the value is a tuple of the position of a maker and a Room that keeps it apart from the others."""
    if not isinstance(value, tuple) or len(value) != 2 or not is_count(value[0]) or value[0] >= len(makers):
        return False
    return is_kept_apart(others, makers[value[0]], value[1])


def place_apart(makers, number, other):
    """The position of the first maker that has unlike worths at both numbers, None if none has."""
    places = [at for at, one in enumerate(makers) if worth(one, number) != worth(one, other)]
    return places[0] if places else None


def is_place_apart(makers, number, other, value):
    """Whether the value is the position of a maker that has unlike worths at both numbers."""
    return is_count(value) and value < len(makers) and worth(makers[value], number) != worth(makers[value], other)


def is_degree_met(frame, count):
    """Whether something of this degree is made."""
    return met_table(frame.least(), count)[count]


def making_met(makers, count):
    """A making that comes to something of this degree, None if there is none."""
    frame = Frame(makers)
    return making_of_degree(frame, count) if is_degree_met(frame, count) else None


def is_making_met(makers, count, value):
    """Whether the value is a making that comes to something of this degree."""
    worths = worths_of(told_makers(makers), value)
    return worths is not None and len(worths[-1][0]) - 1 == count


def is_gap_room(makers, count, value):
    """Whether the value is a Room of all makers, of a clock of a degree above the count, with no head there."""
    if not isinstance(value, Room) or not all([value.holds(told(one)) for one in makers]):
        return False
    return len(value.clock()) - 1 > count and count not in value.heads()
