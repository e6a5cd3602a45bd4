"""SIDES: languages told as data."""

from besidealone.forms import are_named, is_ascending, is_lot, is_name, is_row

POWERS = ("again", "catch", "keep", "same")
TRUTHS = ("no", "yes")


def is_kind(thing):
    """Whether any value is a KIND of a SIDE with its RAWS."""
    if not is_row(2, thing) or not is_name(thing[0]) or thing[0] == "thing":
        return False
    raws = thing[1]
    if not isinstance(raws, tuple) or raws == () or not all([is_name(raw) for raw in raws]):
        return False
    return is_ascending(raws) and (thing[0] != "truth" or raws == TRUTHS)


def are_kinds(thing):
    """Whether any value is all the KINDS of a SIDE."""
    if not are_named(2, thing) or not all([is_kind(row) for row in thing]):
        return False
    kinds = [kind for kind, raws in thing]
    return "truth" in kinds and "word" in kinds


def is_operation(kinds, thing):
    """Whether any value is an operation over these KINDS, told with their RAWS."""
    if not is_row(4, thing) or not is_name(thing[0]):
        return False
    name, takes, gives, results = thing
    known = [kind for kind, raws in kinds]
    if not isinstance(takes, tuple) or len(takes) not in (1, 2) or not isinstance(results, tuple):
        return False
    if gives not in known or not all([kind in known for kind in takes]):
        return False
    given = dict(kinds)[gives]
    return len(results) == how_many_rows(kinds, takes) and all([raw in given for raw in results])


def how_many_rows(kinds, takes):
    """How many rows of RAWS there are; more than could be listed, maybe, where no bound was looked at."""
    many = 1
    for kind in takes:
        many = many * len(dict(kinds)[kind])
    return many


def is_side(thing):
    """Whether any value is a SIDE."""
    if not is_row(3, thing):
        return False
    kinds, operations, powers = thing
    if not are_kinds(kinds) or not are_named(4, operations) or not is_lot(POWERS, powers):
        return False
    return all([is_operation(kinds, row) for row in operations])


def kinds_of(side):
    """The KINDS of a SIDE, in order."""
    return tuple([kind for kind, raws in side[0]])


def raws_of(side, kind):
    """The RAWS of a KIND, in order."""
    return dict(side[0])[kind]


def is_raw(side, kind, raw):
    """Whether any two values are a KIND of a SIDE and a RAW of it."""
    return kind in kinds_of(side) and raw in raws_of(side, kind)


def rows_of(side, kinds):
    """All rows of one RAW of each of these KINDS, the last one fastest."""
    rows = [()]
    for kind in kinds:
        raws = raws_of(side, kind)
        rows = [row + (raw,) for row in rows for raw in raws]
    return tuple(rows)


def operation(side, name):
    """The operation with this NAME, None if there is none."""
    for row in side[1]:
        if row[0] == name:
            return row
    return None


def result_of(side, name, raws):
    """The RAW that an operation gives for RAWS."""
    row = operation(side, name)
    at = 0
    for kind, raw in zip(row[1], raws):
        own = raws_of(side, kind)
        at = at * len(own) + own.index(raw)
    return row[3][at]


def has(side, power):
    """Whether a SIDE has a power."""
    return power in side[2]


def with_powers(side, powers):
    """The SIDE with just these powers."""
    return side[:2] + (powers,)
