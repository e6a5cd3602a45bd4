"""Integers, NAMES, lots of NAMES, and the tuples of which all else is made."""

LONGEST_NAME = 12


def is_integer(thing):
    """Whether any value is an int that is not a truth."""
    return isinstance(thing, int) and not isinstance(thing, bool)


def is_name(thing):
    """Whether any value is a NAME."""
    if not isinstance(thing, str) or not 1 <= len(thing) <= LONGEST_NAME:
        return False
    return all(["a" <= letter <= "z" for letter in thing])


def is_ascending(things):
    """Whether each of these things, which have an order, is less than the next one."""
    return all([one < other for one, other in zip(things, things[1:])])


def is_lot(names, thing):
    """Whether any value is an ascending tuple of some of these NAMES."""
    # Only strings have an order that can be asked for without an error.
    return isinstance(thing, tuple) and all([name in names for name in thing]) and is_ascending(thing)


def is_row(length, thing):
    """Whether any value is a tuple with so many members."""
    return isinstance(thing, tuple) and len(thing) == length


def are_named(length, thing):
    """Whether any value is an ascending tuple of tuples of this length that begin with unlike NAMES."""
    if not isinstance(thing, tuple) or not all([is_row(length, row) for row in thing]):
        return False
    names = [row[0] for row in thing]
    return all([is_name(name) for name in names]) and is_ascending(names)
