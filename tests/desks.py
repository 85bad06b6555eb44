"""What the tests of the desk share: desks with things, all that a desk tells, and a slow desk to try it by."""

from fromplaces import errors
from fromplaces.bases import common_degree, full_base, inner_part, met_counts
from fromplaces.claims import is_claim, is_true
from fromplaces.commands import is_command, is_deed
from fromplaces.desk import Desk
from fromplaces.houses import House
from fromplaces.made import left
from fromplaces.makers import told_makers
from fromplaces.moves import is_even
from fromplaces.polys import degree, derived, minus, plus, put_in, times, told, worth
from fromplaces.ratios import Ratio
from fromplaces.rooms import Room, led_room, meet_room, sum_room
from fromplaces.stops import is_stop, weight
from fromplaces.times import times_at
from support import Case

START = [
    "poly f 0,0,1", "poly g 0,-1,0,1", "poly t 0,1", "poly c -1,0,1", "makers m f g", "makers n t", "room r c f g", "room q c t",
    "claim k made m f", "claim a all m", "claim w within m n",
]


def started():
    """A desk with things of each kind, and three claims."""
    desk = Desk()
    desk.do_all(*START)
    return desk


def all_of(desk):
    """All that a desk tells of itself, as a text."""
    labels = desk.labels
    return repr([
        desk.names, labels, len(desk), desk.lines(), [desk[name] for name in desk.names], [desk.claim_of(label) for label in labels],
        [desk.fits(label) for label in labels], desk.do("states"), desk.do("names"), [desk.do("claimed " + label) for label in labels],
        redone_lines(desk),
    ])


def redone_lines(desk):
    """The lines that can be done again."""
    other, found = desk.copy(), []
    while True:
        try:
            found.append(other.do("redo"))
        except errors.NothingToRedo:
            return found


class DeskCase(Case):
    """Checks of desks."""

    def refuses(self, desk, error, attributes, command):
        """The command fails so, and nothing changes, also what can be done again."""
        before = all_of(desk)
        self.fails(error, attributes, desk.do, command)
        self.fails(error, attributes, desk, command)
        self.fails(error, attributes, desk.do, command=command)
        self.assertEqual(all_of(desk), before)
        with self.assertRaises(errors.CommandFailed) as held:
            desk.do_all("names", command)
        self.assertEqual(held.exception.position, 1)
        self.assertIs(type(held.exception.__cause__), error)
        for name, value in attributes.items():
            self.alike(getattr(held.exception.__cause__, name), value)
        self.assertEqual(all_of(desk), before)

    def says(self, desk, *pairs):
        """Each command has its answer."""
        for command, wanted in pairs:
            answer = desk.do(command)
            self.assertIs(type(answer), str)
            self.assertEqual([command, answer], [command, wanted])


class SlowDesk:
    """A desk that reckons all states anew each time, from what it keeps."""

    def __init__(self):
        self.things, self.claims, self.done, self.undone = {}, {}, [], []

    def states(self):
        found = {}
        for label, (word, names, numbers, _) in self.claims.items():
            claim = self.claim(word, names, numbers)
            found[label] = "gone" if claim is None or not is_claim(claim) else str(is_true(claim)).lower()
        return found

    def claim(self, word, names, numbers):
        kinds = [Poly if word in ("made", "kept") and at == 1 else Makers for at in range(len(names))]
        if not all([name in self.things and self.things[name][0] is kind for name, kind in zip(names, kinds)]):
            return None
        return (word, *[self.things[name][1] for name in names], *numbers)

    def find(self, name, kind):
        if name not in self.things or (kind is not None and self.things[name][0] is not kind):
            raise errors.UnknownName(name)
        return self.things[name][1]

    def do(self, command):
        if not is_command(command):
            raise errors.InvalidCommand(command)
        if not is_deed(command):
            return self.ask(*command.split(" "))
        before, states = (dict(self.things), dict(self.claims)), self.states()
        try:
            self.deed(command, *command.split(" "))
            if len(self.things) > 12:
                raise errors.TooMany("names", 12)
            if len(self.claims) > 12:
                raise errors.TooMany("labels", 12)
            if len(self.done) == 300:
                raise errors.TooMany("deeds", 300)
        except Exception:
            self.things, self.claims = before
            raise
        self.done.append((command, before))
        self.undone = []
        now = self.states()
        return ", ".join([f"{label} {now[label]}" for label in sorted(now) if states.get(label) != now[label]]) or "-"

    def deed(self, command, word, first, *rest):
        if word == "claim":
            return self.note(command, first, *rest)
        if word == "forget":
            if first not in self.claims:
                raise errors.UnknownLabel(first)
            del self.claims[first]
            return None
        if word == "drop":
            self.find(first, None)
            del self.things[first]
            return None
        if word in ("add", "take", "change"):
            return self.alter(word, first, *rest)
        if first in self.things:
            raise errors.NameTaken(first)
        kinds = KINDS.get(word, [])
        found = [self.find(one, kind) for one, kind in zip(rest, kinds + [Poly] * 9)] if word != "poly" else [numbers_of(rest[0])]
        kind, make = MAKE[word]
        self.things[first] = (kind, make(*found))
        return None

    def alter(self, word, name, *rest):
        kind = Poly if word == "change" else Makers
        value = list(self.find(name, kind))
        if word == "add":
            value.append(self.find(rest[0], Poly))
        elif word == "take":
            if int(rest[0]) >= len(value):
                raise errors.InvalidPosition(int(rest[0]))
            del value[int(rest[0])]
        else:
            if int(rest[0]) > 48:
                raise errors.InvalidMany(int(rest[0]))
            value += [0] * 49
            value[int(rest[0])] = number_of(rest[1])
            value = value[:49]
        self.things[name] = (kind, told(value) if word == "change" else told_makers(value))

    def note(self, command, label, word, *rest):
        if label in self.claims:
            raise errors.LabelTaken(label)
        many = {"all": 1, "tied": 1, "made": 2, "kept": 2, "within": 2, "beyond": 2}.get(word, 1)
        names, numbers = rest[:many], rest[many:]
        kinds = [Poly if word in ("made", "kept") and at == 1 else Makers for at in range(many)]
        for name, kind in zip(names, kinds):
            self.find(name, kind)
        numbers = [int(one) if word in ("met", "gap") else number_of(one) for one in numbers]
        claim = self.claim(word, names, numbers)
        if not is_claim(claim):
            raise errors.InvalidClaim(claim)
        self.claims[label] = (word, names, numbers, " ".join(command.split(" ")[2:]))

    def ask(self, word, *rest):
        if word in ("undo", "redo"):
            return self.step(word)
        states = self.states()
        if word == "states":
            return ", ".join([f"{label} {states[label]}" for label in sorted(states)]) or "-"
        if word == "names":
            return " ".join(sorted(self.things)) or "-"
        if word in ("state", "claimed"):
            if rest[0] not in self.claims:
                raise errors.UnknownLabel(rest[0])
            return states[rest[0]] if word == "state" else self.claims[rest[0]][3]
        if word == "show":
            return show(self.find(rest[0], None))
        if word == "same":
            one = self.find(rest[0], None)
            return yes(one == self.find(rest[1], self.things[rest[0]][0]))
        found = self.find(rest[0], ASK_KINDS.get(word, Makers))
        if word == "holds":
            return yes(found.holds(self.find(rest[1], Poly)))
        return ASK[word](found, *[number_of(one) for one in rest[1:]])

    def step(self, word):
        ahead, behind = (self.done, self.undone) if word == "undo" else (self.undone, self.done)
        if not ahead:
            raise (errors.NothingToUndo if word == "undo" else errors.NothingToRedo)()
        command, kept = ahead.pop()
        behind.append((command, (dict(self.things), dict(self.claims))))
        self.things, self.claims = dict(kept[0]), dict(kept[1])
        return command


class Poly:
    """The kind of polynomials."""


class Makers:
    """The kind of makers."""


def number_of(word):
    top, _, bottom = word.partition("/")
    return Ratio(int(top), int(bottom or 1))


def numbers_of(word):
    return [] if word == "-" else [number_of(one) for one in word.split(",")]


def yes(is_so):
    return "yes" if is_so else "no"


def poly_text(poly):
    return ",".join([str(number) for number in poly]) or "-"


def list_text(polys):
    return "; ".join([poly_text(poly) for poly in polys]) or "-"


def show(value):
    if isinstance(value, Room):
        return f"{poly_text(value.clock())} | {list_text([told(row[::-1]) for row in value.rows()])}"
    return list_text(value) if value and isinstance(value[0], list) else poly_text(value)


KINDS = {
    "left": [Makers, Poly], "inner": [Makers], "clock": [Makers], "roomof": [Makers, Poly], "joined": [Room, Room], "shared": [Room, Room],
    "led": [Room, Poly], "ring": [Room],
}
MAKE = {
    "poly": (Poly, told), "makers": (Makers, lambda *polys: told_makers(list(polys))), "sum": (Poly, plus), "less": (Poly, minus),
    "times": (Poly, times), "put": (Poly, put_in), "slope": (Poly, derived), "left": (Poly, left), "inner": (Poly, inner_part),
    "clock": (Poly, lambda makers: House(makers).clock()), "room": (Room, lambda clock, *polys: Room(clock, polys)),
    "roomof": (Room, lambda makers, clock: Room(clock, makers)), "joined": (Room, sum_room), "shared": (Room, meet_room), "led": (Room, led_room),
    "ring": (Poly, lambda room: room.clock()),
}
ASK_KINDS = {"degree": Poly, "worth": Poly, "ties": Room, "size": Room, "heads": Room, "holds": Room}
ASK = {
    "degree": lambda poly: str(degree(poly)), "worth": lambda poly, number: str(worth(poly, number)),
    "base": lambda makers: list_text(full_base(makers)), "counts": lambda makers: " ".join(map(str, met_counts(makers))),
    "common": lambda makers: str(common_degree(makers)), "gaps": lambda makers: " ".join(map(str, House(makers).gaps())) or "-",
    "even": lambda makers: yes(is_even(House(makers))), "meets": lambda makers, number: poly_text(times_at(House(makers), number)),
    "weight": lambda makers, number: str(weight(House(makers), number)), "stop": lambda makers, number: yes(is_stop(House(makers), number)),
    "ties": lambda room: str(room.ties), "size": lambda room: str(room.size()), "heads": lambda room: " ".join(map(str, room.heads())),
}
