"""FACES, and TABLES, which tell how values, errors and things are led over."""

from besidealone.forms import are_named, is_row
from besidealone.likeness import likeness, lot_with
from besidealone.sides import has, kinds_of, raws_of

THING = ("thing",)
MODES = (("crosses", "stops"), ("live", "tabled"), ("let", "barred"), ("kept", "fresh"))
# What stands behind the NAME of an export, and of an import.
EXPORT = ("into", "out")
IMPORT = ("out", "into")


def is_carried(side, kind):
    """Whether any value is a KIND of a SIDE whose RAWS a face may take or answer."""
    return kind in kinds_of(side) and kind != "word"


def are_two_rooms(exports, imports):
    """Whether any two values are exports and imports by the NAMES in their rows of three."""
    if not are_named(3, exports) or not are_named(3, imports) or exports == ():
        return False
    names = [row[0] for row in exports]
    return not any([row[0] in names for row in imports])


def is_faces(side, thing):
    """Whether any value is FACES whose KINDS are those of a SIDE."""
    if not is_row(2, thing) or not are_two_rooms(thing[0], thing[1]):
        return False
    exported = [kind for row in thing[0] for kind in row[1:]]
    imported = [kind for row in thing[1] for kind in row[1:]]
    if not all([kind == "thing" or is_carried(side, kind) for kind in exported]):
        return False
    return all([is_carried(side, kind) for kind in imported])


def is_way(begin, end, place, thing):
    """Whether any value is a WAY from one SIDE to another; only one into the left SIDE may REFUSE."""
    if not is_row(3, thing) or not is_carried(begin, thing[0]) or not is_carried(end, thing[1]):
        return False
    raws = thing[2]
    ends = raws_of(end, thing[1]) + (("",) if place == "into" else ())
    return is_row(len(raws_of(begin, thing[0])), raws) and all([raw in ends for raw in raws])


def is_crossing(left, right, place, thing):
    """Whether any value is a WAY as it may stand at a place of a face."""
    if place == "into":
        return is_way(right, left, place, thing)
    return is_way(left, right, place, thing)


def is_export(left, right, row):
    """Whether what stands behind the NAME of an export may stand there."""
    return all([way == THING or is_crossing(left, right, place, way) for place, way in zip(EXPORT, row[1:])])


def is_import(left, right, row):
    """Whether what stands behind the NAME of an import may stand there."""
    return all([is_crossing(left, right, place, way) for place, way in zip(IMPORT, row[1:])])


def are_words(left, right, thing):
    """Whether any value is the words of a TABLE."""
    if not is_row(5, thing):
        return False
    mine, theirs = raws_of(left, "word"), raws_of(right, "word")
    if not is_row(len(mine), thing[0]) or not all([word in theirs for word in thing[0]]):
        return False
    if not is_row(len(theirs), thing[1]) or not all([word in mine for word in thing[1]]):
        return False
    return thing[2] in mine and thing[3] in theirs and thing[4] in mine


def are_modes(thing):
    """Whether any value is the modes of a TABLE."""
    return is_row(len(MODES), thing) and all([mode in both for mode, both in zip(thing, MODES)])


def is_table(left, right, thing):
    """Whether any value is a TABLE between two SIDES."""
    if not is_row(4, thing) or not are_two_rooms(thing[0], thing[1]):
        return False
    if not all([is_export(left, right, row) for row in thing[0]]):
        return False
    if not all([is_import(left, right, row) for row in thing[1]]):
        return False
    return are_words(left, right, thing[2]) and are_modes(thing[3])


def begin_of(way):
    """The KIND where a WAY begins, or thing."""
    return way[0]


def end_of(way):
    """The KIND where a WAY ends, or thing."""
    return "thing" if way == THING else way[1]


def faces(table):
    """The FACES of a TABLE, with the KINDS of the left SIDE."""
    exports = [(name, end_of(into), begin_of(out)) for name, into, out in table[0]]
    imports = [(name, begin_of(out), end_of(into)) for name, out, into in table[1]]
    return (tuple(exports), tuple(imports))


def right_faces(table):
    """The FACES of a TABLE, with the KINDS of the right SIDE."""
    exports = [(name, begin_of(into), end_of(out)) for name, into, out in table[0]]
    imports = [(name, end_of(out), begin_of(into)) for name, out, into in table[1]]
    return (tuple(exports), tuple(imports))


def ways_of(table):
    """All WAYS of a TABLE, each with its face and its place."""
    found = []
    for name, into, out in table[0]:
        found.extend([(name, "into", into), (name, "out", out)])
    for name, out, into in table[1]:
        found.extend([(name, "into", into), (name, "out", out)])
    return tuple([row for row in found if row[2] != THING])


def row_with(rows, name):
    """The row with this NAME, None if there is none."""
    for row in rows:
        if row[0] == name:
            return row
    return None


def export_of(table, name):
    """The export with this NAME, None if there is none."""
    return row_with(table[0], name)


def import_of(table, name):
    """The import with this NAME, None if there is none."""
    return row_with(table[1], name)


def led(side, way, raw):
    """The RAW to which a WAY that begins on a SIDE leads a RAW, "" if it REFUSES it."""
    return way[2][raws_of(side, way[0]).index(raw)]


def out_word(left, table, word):
    """The right WORD to which a left one is led."""
    return table[2][0][raws_of(left, "word").index(word)]


def into_word(right, table, word):
    """The left WORD to which a right one is led."""
    return table[2][1][raws_of(right, "word").index(word)]


def let_by(side, way):
    """The RAWS that a WAY that begins on a SIDE doesn't REFUSE."""
    return tuple([raw for raw, end in zip(raws_of(side, way[0]), way[2]) if end != ""])


def met(way):
    """The RAWS to which a WAY leads one."""
    return tuple(sorted({raw for raw in way[2] if raw != ""}))


def is_passable(table):
    """Whether each WAY into the left SIDE lets some RAW by, and things can be had where they are taken."""
    if not all([met(way) != () for face, place, way in ways_of(table) if place == "into"]):
        return False
    takes = any([into == THING for name, into, out in table[0]])
    return not takes or any([into != THING and out == THING for name, into, out in table[0]])


def is_level(left, right, table):
    """Whether nothing that goes into the left SIDE looks beneath the likeness of the right one."""
    begins, ends = dict(likeness(right)), dict(likeness(left))
    ways = [way for face, place, way in ways_of(table) if place == "into"]
    ways.append(("word", "word", table[2][1]))
    return all([keeps_alike(right, begins, ends, way) for way in ways])


def keeps_alike(side, begins, ends, way):
    """Whether a WAY leads ALIKE RAWS to ALIKE ones, or REFUSES all of them; the CLASSES of both SIDES are told."""
    for lot in begins[way[0]]:
        first = class_or_none(ends[way[1]], led(side, way, lot[0]))
        if any([class_or_none(ends[way[1]], led(side, way, raw)) != first for raw in lot]):
            return False
    return True


def class_or_none(lots, raw):
    """The one of these CLASSES in which a RAW stands, () where it was REFUSED."""
    return () if raw == "" else lot_with(lots, raw)


def twice(left, table):
    """Whether a thing can come TWICE."""
    answering = [into for name, into, out in table[0] if out == THING]
    return THING in answering or (has(left, "keep") and answering != [])


def with_modes(table, modes):
    """The TABLE with these modes."""
    return table[:3] + (modes,)


def with_way(table, face, place, way):
    """The TABLE with this WAY at a place of a face."""
    exports = changed_rows(table[0], EXPORT, face, place, way)
    return (exports, changed_rows(table[1], IMPORT, face, place, way)) + table[2:]


def changed_rows(rows, places, face, place, way):
    """Exports or imports, with this WAY at a place of the face if it is one of them."""
    at = 1 + places.index(place)
    return tuple([row[:at] + (way,) + row[at + 1:] if row[0] == face else row for row in rows])
