"""Which values are INTEGERS, COUNTS and lists."""

from fromplaces.errors import InvalidMany


def is_integer(value):
    """Whether the value is an INTEGER: an int that is not a bool."""
    return isinstance(value, int) and not isinstance(value, bool)


def is_count(value):
    """Whether the value is a COUNT: an INTEGER that is at least 0."""
    return is_integer(value) and value >= 0


def is_list(value):
    """Whether the value may stand where a list is wanted; a tuple may, too."""
    return isinstance(value, (list, tuple))


def check_many(many, least, most):
    """Raises InvalidMany unless many is a COUNT from least to most."""
    if not is_count(many) or many < least or many > most:
        raise InvalidMany(many)


def copied(value):
    """The value with new lists and tuples, also within them."""
    if isinstance(value, list):
        return [copied(one) for one in value]
    if isinstance(value, tuple):
        return tuple([copied(one) for one in value])
    return value
