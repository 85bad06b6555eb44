"""Commands by their words alone."""

from fromplaces.signs import count_from, number_from, numbers_from

LETTERS = "abcdefghijklmnopqrstuvwxyz"
SIGNS = "abcdefghijklmnopqrstuvwxyz0123456789"
MOST_SIGNS = 8
MOST_NUMBERS = 13
MOST_ONES = 4
GREATEST_PART = 999999
GREATEST_COUNT = 99

# What stands behind the word of each command. "new", "free" and "label" are names: of nothing that is kept, labels of
# no claim and of one; "same" is a name of a thing of the kind ahead of it; "more" are one to four of "one".
DEEDS = {
    "poly": ("new", "poly"), "makers": ("new", "more"),
    "sum": ("new", "one", "one"), "less": ("new", "one", "one"), "times": ("new", "one", "one"),
    "put": ("new", "one", "one"), "slope": ("new", "one"),
    "left": ("new", "makers", "one"), "inner": ("new", "makers"), "clock": ("new", "makers"),
    "room": ("new", "one", "more"), "roomof": ("new", "makers", "one"),
    "joined": ("new", "room", "room"), "shared": ("new", "room", "room"), "led": ("new", "room", "one"),
    "ring": ("new", "room"),
    "add": ("makers", "one"), "take": ("makers", "count"), "change": ("one", "count", "number"),
    "drop": ("name",), "forget": ("label",),
}
CLAIMS = {
    "made": ("makers", "one"), "kept": ("makers", "one"), "all": ("makers",), "tied": ("makers",),
    "within": ("makers", "makers"), "beyond": ("makers", "makers"),
    "joint": ("makers", "number", "number"), "apart": ("makers", "number", "number"),
    "met": ("makers", "count"), "gap": ("makers", "count"),
}
OTHERS = {
    "undo": (), "redo": (), "state": ("label",), "states": (), "claimed": ("label",), "names": (), "show": ("name",),
    "degree": ("one",), "worth": ("one", "number"),
    "base": ("makers",), "counts": ("makers",), "common": ("makers",), "gaps": ("makers",), "even": ("makers",),
    "meets": ("makers", "number"), "weight": ("makers", "number"), "stop": ("makers", "number"),
    "ties": ("room",), "size": ("room",), "heads": ("room",), "holds": ("room", "one"),
    "same": ("name", "same"),
}


class Command:
    """The text of a command, its word, and of what stands behind it the kinds and the parts, what they tell."""

    def __init__(self, text, word, kinds, parts):
        self.text = text
        self.word = word
        self.kinds = kinds
        self.parts = parts


def is_name(value):
    """Whether the value is a name."""
    if not isinstance(value, str) or len(value) < 1 or len(value) > MOST_SIGNS:
        return False
    return value[0] in LETTERS and all([sign in SIGNS for sign in value])


def is_command(value):
    """Whether the value is a string that is a command by its words alone."""
    return parsed(value) is not None


def is_deed(value):
    """Whether the value is a deed."""
    command = parsed(value)
    return command is not None and is_deed_word(command.word)


def is_deed_word(word):
    """Whether the commands with this word are deeds."""
    return word == "claim" or word in DEEDS


def parsed(value):
    """The Command of the value, None unless it is one."""
    if not isinstance(value, str):
        return None
    word, *rest = value.split(" ")
    kinds = kinds_of(word, rest)
    if kinds is None or len(kinds) != len(rest):
        return None
    parts = [part_of(kind, one) for kind, one in zip(kinds, rest)]
    return None if any([part is None for part in parts]) else Command(value, word, kinds, parts)


def kinds_of(word, rest):
    """The kinds of what stands behind the word of a command, of so many words; None if there are none."""
    if word == "claim":
        known = len(rest) > 1 and rest[1] in CLAIMS
        return ("free", "word", *CLAIMS[rest[1]]) if known else None
    if word not in DEEDS and word not in OTHERS:
        return None
    kinds = DEEDS[word] if word in DEEDS else OTHERS[word]
    if "more" not in kinds:
        return kinds
    many = len(rest) - len(kinds) + 1
    return (*kinds[:-1], *["one" for _ in range(many)]) if 1 <= many <= MOST_ONES else None


def part_of(kind, word):
    """What the word tells where this kind is wanted, None if it is none."""
    if kind == "poly":
        return poly_part(word)
    if kind == "number":
        found = number_from(word)
        return found if found is not None and is_short(found) else None
    if kind == "count":
        count = count_from(word)
        return count if count is not None and count <= GREATEST_COUNT else None
    return word if is_name(word) else None


def poly_part(word):
    """The list of the NUMBERS of a POLY, None if the word is none."""
    if word == "-":
        return []
    found = numbers_from(word.split(","))
    if found is None or len(found) > MOST_NUMBERS or not all([is_short(number) for number in found]):
        return None
    return found


def is_short(number):
    """Whether the Ratio has at most six digits above and below the stroke."""
    return abs(number.top) <= GREATEST_PART and number.bottom <= GREATEST_PART
