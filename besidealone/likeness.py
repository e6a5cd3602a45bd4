"""Which RAWS no TERM tells apart.

RAWS have marks: a dict from tuples (kind, raw) to integers. Two RAWS of one KIND have equal marks as long as
nothing tells them apart.
"""

from besidealone.forms import is_ascending, is_lot, is_row
from besidealone.sides import rows_of


def numbered(signs):
    """Marks that are equal just where the KINDS and the signs are."""
    numbers = {}
    marks = {}
    for kind, raw in signs:
        sign = (kind, tuple(signs[kind, raw]))
        marks[kind, raw] = numbers.setdefault(sign, len(numbers))
    return marks


def first_marks(side):
    """The marks of what the hole alone tells apart: the RAWS of truth."""
    signs = {}
    for kind, raws in side[0]:
        for raw in raws:
            signs[kind, raw] = [raw] if kind == "truth" else []
    return numbered(signs)


def next_marks(side, marks):
    """The marks of what is told apart by one operation more than these marks tell of."""
    signs = {key: [marks[key]] for key in marks}
    for name, takes, gives, results in side[1]:
        rows = rows_of(side, takes)
        # One place behind the other: so signs of two RAWS of one KIND have the same other RAWS beside them.
        for place, kind in enumerate(takes):
            for row, result in zip(rows, results):
                signs[kind, row[place]].append(marks[gives, result])
    return numbered(signs)


def rounds(side):
    """The list of the marks of what TERMS of depth 0, of depth 1 at most, and so on tell apart.

    The last ones are those of the CLASSES.
    """
    found = [first_marks(side)]
    while True:
        marks = next_marks(side, found[-1])
        # Marks only part more and more: as many as before are the same as before.
        if how_many(marks) == how_many(found[-1]):
            return found
        found.append(marks)


def how_many(marks):
    """How many unlike marks there are."""
    return len(set(list(marks.values())))


def lots_of(marks, kind, raws):
    """The lots of the RAWS of a KIND that have equal marks."""
    lots = {}
    for raw in raws:
        lots.setdefault(marks[kind, raw], []).append(raw)
    return tuple([tuple(lot) for lot in lots.values()])


def likeness(side):
    """The LIKENESS whose lots are the CLASSES."""
    marks = rounds(side)[-1]
    return tuple([(kind, lots_of(marks, kind, raws)) for kind, raws in side[0]])


def classes(side, kind):
    """The CLASSES of a KIND."""
    return dict(likeness(side))[kind]


def class_of(side, kind, raw):
    """The CLASS of a RAW."""
    return lot_with(classes(side, kind), raw)


def lot_with(lots, raw):
    """The one of these lots in which a RAW stands."""
    return [lot for lot in lots if raw in lot][0]


def are_alike(side, kind, one, other):
    """Whether two RAWS of a KIND are ALIKE."""
    return other in class_of(side, kind, one)


def are_lots(raws, thing):
    """Whether any value is an ascending tuple of lots, each of these RAWS standing in just one of them."""
    if not isinstance(thing, tuple) or not all([lot != () and is_lot(raws, lot) for lot in thing]):
        return False
    return is_ascending(thing) and sorted([raw for lot in thing for raw in lot]) == list(raws)


def is_likeness(side, thing):
    """Whether any value is a LIKENESS."""
    if not is_row(len(side[0]), thing) or not all([is_row(2, row) for row in thing]):
        return False
    pairs = list(zip(side[0], thing))
    if not all([row[0] == kind and are_lots(raws, row[1]) for (kind, raws), row in pairs]):
        return False
    marks = {}
    for kind, lots in thing:
        for at, lot in enumerate(lots):
            for raw in lot:
                marks[kind, raw] = at
    if marks["truth", "no"] == marks["truth", "yes"]:
        return False
    return all([is_kept_by(side, marks, row) for row in side[1]])


def is_kept_by(side, marks, row):
    """Whether an operation gives RAWS with equal marks for all rows of RAWS with equal marks."""
    name, takes, gives, results = row
    given = {}
    for raws, result in zip(rows_of(side, takes), results):
        asked = tuple([marks[kind, raw] for kind, raw in zip(takes, raws)])
        if given.setdefault(asked, marks[gives, result]) != marks[gives, result]:
            return False
    return True
