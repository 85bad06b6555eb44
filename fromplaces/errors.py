"""The errors of the package. Each attribute holds what was passed."""


class TimeError(ValueError):
    """A value that is not valid."""


class InvalidHouse(TimeError):
    """A value that is no House."""

    def __init__(self, value):
        self.value = value


class InvalidMakers(TimeError):
    """A value that is no makers."""

    def __init__(self, value):
        self.value = value


class InvalidMany(TimeError):
    """A value that is no COUNT within the told bounds."""

    def __init__(self, value):
        self.value = value


class InvalidNumber(TimeError):
    """A value that is no NUMBER."""

    def __init__(self, value):
        self.value = value


class InvalidPoly(TimeError):
    """A value that is no polynomial."""

    def __init__(self, value):
        self.value = value


class InvalidRoom(TimeError):
    """A value that is no Room."""

    def __init__(self, value):
        self.value = value


class DividedByZero(TimeError):
    """A number divided by 0."""


class InvalidClaim(TimeError):
    """A value that is no claim, or a claim that a limit stops."""

    def __init__(self, value):
        self.value = value


class InvalidClock(TimeError):
    """A value that is no clock."""

    def __init__(self, value):
        self.value = value


class InvalidCommand(TimeError):
    """A value that is no command."""

    def __init__(self, value):
        self.value = value


class InvalidCounts(TimeError):
    """A value that is no list of counts within the told bounds."""

    def __init__(self, value):
        self.value = value


class InvalidGoals(TimeError):
    """A value that is no list of one NUMBER for each row."""

    def __init__(self, value):
        self.value = value


class InvalidInner(TimeError):
    """A value that is no polynomial of the degree 1 or more."""

    def __init__(self, value):
        self.value = value


class InvalidLines(TimeError):
    """A list of lines with one at this position that is no deed, or no list."""

    def __init__(self, position):
        self.position = position


class InvalidMaking(TimeError):
    """A value that is no making of the makers."""

    def __init__(self, value):
        self.value = value


class InvalidPaper(TimeError):
    """A value that is no paper of the claim."""

    def __init__(self, value):
        self.value = value


class InvalidPolys(TimeError):
    """A value that is no list of polynomials."""

    def __init__(self, value):
        self.value = value


class InvalidPosition(TimeError):
    """A position at which nothing stands."""

    def __init__(self, value):
        self.value = value


class InvalidRows(TimeError):
    """A value that is no rows, or not the rows that are wanted."""

    def __init__(self, value):
        self.value = value


class InvalidSort(TimeError):
    """A value that is not the word of a sort."""

    def __init__(self, value):
        self.value = value


class InvalidText(TimeError):
    """A text that is no written form; the line is the wrong one."""

    def __init__(self, line):
        self.line = line


class InvalidValue(TimeError):
    """A value that is not of its sort."""

    def __init__(self, value):
        self.value = value


class MissingError(LookupError):
    """Something that is not kept."""


class UnknownLabel(MissingError):
    """A label under which no claim is noted."""

    def __init__(self, value):
        self.value = value


class UnknownName(MissingError):
    """A name under which nothing of the wanted kind is kept."""

    def __init__(self, value):
        self.value = value


class StateError(RuntimeError):
    """Something that cannot be done as things are."""


class CommandFailed(StateError):
    """The command at this position failed."""

    def __init__(self, position):
        self.position = position


class LabelTaken(StateError):
    """A label under which a claim is noted already."""

    def __init__(self, label):
        self.label = label


class NameTaken(StateError):
    """A name under which something is kept already."""

    def __init__(self, name):
        self.name = name


class NotAll(StateError):
    """Counts or makers with a common divisor above 1."""


class NotDivided(StateError):
    """A clock that does not divide the room's clock."""


class NothingToRedo(StateError):
    """No deed was taken back."""


class NothingToUndo(StateError):
    """No deed can be taken back."""


class NoughtFirst(StateError):
    """A move whose first number is 0."""


class NoughtPoly(StateError):
    """Nought, where a polynomial other than nought is wanted."""


class OnlyNumber(StateError):
    """A number, where a polynomial of the degree 1 or more is wanted."""


class UnlikeClocks(StateError):
    """Two rooms whose clocks are told unlike."""


class LimitError(ArithmeticError):
    """Something beyond what is reckoned."""


class TooMany(LimitError):
    """There would be more than the limit of what is told."""

    def __init__(self, what, limit):
        self.what = what
        self.limit = limit
