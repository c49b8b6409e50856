"""Kinds and forms of plain values, and tuples where lists were given."""

LONGEST_NAME = 8


def tupled(value):
    """The value, with a tuple in the place of each list, at every depth."""
    if isinstance(value, (list, tuple)):
        return tuple([tupled(part) for part in value])
    return value


def is_number(thing):
    """Whether thing is an int other than True and False."""
    return isinstance(thing, int) and not isinstance(thing, bool)


def is_name(thing):
    """Whether thing is a NAME."""
    if not isinstance(thing, str):
        return False
    # Signs are compared: isalpha and islower also take letters beyond a to z.
    return 1 <= len(thing) <= LONGEST_NAME and all(["a" <= sign <= "z" for sign in thing])


def is_tuple_of(thing, many):
    """Whether thing is a tuple of so many."""
    return isinstance(thing, tuple) and len(thing) == many


def looks_like_event(thing):
    """Whether thing is a pair of a string and a number, so that it can be looked up among EVENTs."""
    return is_tuple_of(thing, 2) and isinstance(thing[0], str) and is_number(thing[1])


def is_ascending(values):
    """Whether each value is less than the one that follows; all are of the same form."""
    return all([values[at] < values[at + 1] for at in range(len(values) - 1)])
