"""The answers to commands that ask."""

from fromplaces.bases import common_degree, full_base, met_counts
from fromplaces.deeds import claimed_words, parts_told, states_sign
from fromplaces.houses import House
from fromplaces.moves import is_even
from fromplaces.polys import degree, trimmed, worth
from fromplaces.rooms import Room
from fromplaces.signs import counts_sign, poly_sign, polys_sign, yes_sign
from fromplaces.stops import is_stop, weight
from fromplaces.times import times_at


def answer_to(kept, command):
    """The answer to a command that asks something of what is kept."""
    word = command.word
    if word == "states":
        return states_sign(kept.states)
    if word == "state":
        return kept.states[command.parts[0]]
    if word == "claimed":
        return claimed_words(kept.claims[command.parts[0]])
    if word == "names":
        names = sorted(list(kept.things))
        return " ".join(names) if names else "-"
    question = QUESTIONS[word]
    return question(parts_told(kept.things, command.kinds, command.parts))


def shown(parts):
    """A polynomial, makers, or a room by its clock and its rows."""
    thing = parts[0]
    if isinstance(thing, Room):
        rows = [trimmed(row[::-1]) for row in thing.rows()]
        return f"{poly_sign(thing.clock())} | {polys_sign(rows)}"
    return polys_sign(thing) if thing and isinstance(thing[0], list) else poly_sign(thing)


def degree_sign(parts):
    """The degree of the polynomial."""
    return str(degree(parts[0]))


def worth_sign(parts):
    """The worth of the polynomial at the number."""
    return str(worth(parts[0], parts[1]))


def base_sign(parts):
    """The full base of the makers."""
    return polys_sign(full_base(parts[0]))


def met_sign(parts):
    """The least met counts of the makers."""
    return counts_sign(met_counts(parts[0]))


def common_sign(parts):
    """The common degree of the makers."""
    return str(common_degree(parts[0]))


def gaps_sign(parts):
    """The gaps of the House of the makers."""
    return counts_sign(House(parts[0]).gaps())


def even_sign(parts):
    """Whether the House of the makers is even."""
    return yes_sign(is_even(House(parts[0])))


def times_sign(parts):
    """The times at the place of the number in the House of the makers."""
    return poly_sign(times_at(House(parts[0]), parts[1]))


def weight_sign(parts):
    """The weight of the number in the House of the makers."""
    return str(weight(House(parts[0]), parts[1]))


def stop_sign(parts):
    """Whether the number is a stop of the House of the makers."""
    return yes_sign(is_stop(House(parts[0]), parts[1]))


def ties_sign(parts):
    """The ties of the room."""
    return str(parts[0].ties)


def size_sign(parts):
    """The size of the room."""
    return str(parts[0].size())


def heads_sign(parts):
    """The heads of the room."""
    return counts_sign(parts[0].heads())


def holds_sign(parts):
    """Whether the room holds the polynomial."""
    return yes_sign(parts[0].holds(parts[1]))


def same_sign(parts):
    """Whether both things are equal."""
    return yes_sign(parts[0] == parts[1])


QUESTIONS = {
    "show": shown, "degree": degree_sign, "worth": worth_sign, "base": base_sign, "counts": met_sign,
    "common": common_sign, "gaps": gaps_sign, "even": even_sign, "meets": times_sign, "weight": weight_sign,
    "stop": stop_sign, "ties": ties_sign, "size": size_sign, "heads": heads_sign, "holds": holds_sign,
    "same": same_sign,
}
