"""What a desk keeps, and what a deed makes of it."""

from fromplaces.basics import copied
from fromplaces.claims import is_claim, is_true
from fromplaces.errors import InvalidClaim, LabelTaken, NameTaken, TooMany, UnknownLabel, UnknownName
from fromplaces.things import kind_made, made_of

MOST_NAMES = 12
MOST_LABELS = 12
# The kinds of things, and of names of which one of any kind, or of the kind ahead, is wanted.
NAMED = ("one", "makers", "room", "name", "same")


class Kept:
    """Things by their names, each as (kind, value); by labels the Commands that noted claims, and states.

    It never changes.
    """

    def __init__(self, things, claims, states):
        self.things = things
        self.claims = claims
        self.states = states


def check_names(kept, command):
    """Raises NameTaken, LabelTaken, UnknownName, UnknownLabel unless the names of the command are as it wants them."""
    told_parts = list(zip(command.kinds, command.parts))
    for kind, part in told_parts:
        if kind == "new" and part in kept.things:
            raise NameTaken(part)
        if kind == "free" and part in kept.claims:
            raise LabelTaken(part)
    for kind, part in told_parts:
        wanted = kept.things[command.parts[0]][0] if kind == "same" else kind
        if kind in NAMED and not is_kept(kept.things, wanted, part):
            raise UnknownName(part)
    for kind, part in told_parts:
        if kind == "label" and part not in kept.claims:
            raise UnknownLabel(part)


def is_kept(things, kind, name):
    """Whether a thing of this kind is kept under the name."""
    return name in things and (kind == "name" or things[name][0] == kind)


def parts_told(things, kinds, parts):
    """The parts, copies of things in the place of their names."""
    return [copied(things[part][1]) if kind in NAMED else part for kind, part in zip(kinds, parts)]


def after_deed(kept, command):
    """What is kept behind the deed."""
    if command.word == "claim":
        return with_claim(kept, command)
    name = command.parts[0]
    if command.word == "forget":
        claims = {label: claim for label, claim in kept.claims.items() if label != name}
        return Kept(kept.things, claims, {label: kept.states[label] for label in claims})
    if command.word == "drop":
        return with_things(kept, {one: kept.things[one] for one in kept.things if one != name}, name)
    thing = made_thing(kept, command)
    if name not in kept.things and len(kept.things) == MOST_NAMES:
        raise TooMany("names", MOST_NAMES)
    return with_things(kept, {**kept.things, name: thing}, name)


def changes(before, after):
    """How states changed, as the answer to a deed tells it."""
    return states_sign({
        label: state for label, state in after.states.items() if before.states.get(label, "") != state
    })


def states_sign(states):
    """The labels with their states, sorted; `-` for none."""
    return ", ".join([f"{label} {states[label]}" for label in sorted(list(states))]) if states else "-"


def with_claim(kept, command):
    """What is kept with a claim more: InvalidClaim if it is none."""
    tried = claim_tuple(kept.things, command)
    if not is_claim(tried):
        raise InvalidClaim(tried)
    state = state_of(kept.things, command)
    if len(kept.claims) == MOST_LABELS:
        raise TooMany("labels", MOST_LABELS)
    label = command.parts[0]
    return Kept(kept.things, {**kept.claims, label: command}, {**kept.states, label: state})


def with_things(kept, things, name):
    """What is kept with these things, of which the one under the name is another one now."""
    states = {
        label: state_of(things, claim) if name in names_of(claim) else kept.states[label]
        for label, claim in kept.claims.items()
    }
    return Kept(things, kept.claims, states)


def names_of(claim):
    """The names of the things of a claim."""
    return [part for kind, part in zip(claim.kinds, claim.parts) if kind in NAMED]


def state_of(things, claim):
    """The state of a claim as things are."""
    told_now = claim_now(things, claim)
    if told_now is None:
        return "gone"
    return "true" if is_true(told_now) else "false"


def claim_now(things, claim):
    """The claim with what is kept under its names, None if nothing of the wanted kinds is, or it is none."""
    found = claim_tuple(things, claim)
    return found if is_claim(found) else None


def claim_tuple(things, claim):
    """The tuple of the claim's word and parts, None if nothing of a wanted kind is kept under one of its names."""
    # Ahead of its word stands its label.
    behind = list(zip(claim.kinds, claim.parts))[2:]
    if not all([kind not in NAMED or is_kept(things, kind, part) for kind, part in behind]):
        return None
    return (claim.parts[1], *parts_told(things, claim.kinds[2:], claim.parts[2:]))


def claimed_words(claim):
    """The words of the claim behind its label."""
    return " ".join(claim.text.split(" ")[2:])


def made_thing(kept, command):
    """The thing that the deed makes, as (kind, value)."""
    first = 1 if command.kinds[0] == "new" else 0
    parts = parts_told(kept.things, command.kinds[first:], command.parts[first:])
    return kind_made(command.word), made_of(command.word, parts)
