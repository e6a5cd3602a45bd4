"""TABLES as texts."""

from besidealone.errors import Wrong
from besidealone.forms import is_name
from besidealone.lines import Lines
from besidealone.sides import is_side, raws_of
from besidealone.tables import EXPORT, IMPORT, THING, are_modes, is_crossing

REFUSED = "-"


def show_table(left, right, table):
    """The text of a TABLE between two SIDES."""
    exports, imports, words, modes = table
    lines = []
    for row in exports:
        lines.extend(shown_face("export", EXPORT, row))
    for row in imports:
        lines.extend(shown_face("import", IMPORT, row))
    lines.append(" ".join(["words", "out"] + list(words[0])))
    lines.append(" ".join(["words", "into"] + list(words[1])))
    lines.append(" ".join(["words", "refused"] + list(words[2:])))
    lines.append(" ".join(["modes"] + list(modes)))
    return "\n".join(lines)


def shown_face(head, places, row):
    """The three lines of an export or an import."""
    lines = [" ".join([head, row[0]])]
    for place, way in zip(places, row[1:]):
        lines.append(" ".join([place] + shown_way(way)))
    return lines


def shown_way(way):
    """The words that tell a WAY."""
    if way == THING:
        return ["thing"]
    return list(way[:2]) + [REFUSED if raw == "" else raw for raw in way[2]]


def read_table(left, right, text):
    """The TABLE between two SIDES that a text shows."""
    if not is_side(left):
        raise Wrong(0)
    if not is_side(right):
        raise Wrong(1)
    if not isinstance(text, str):
        raise Wrong(2)
    lines = Lines(text)
    names = []
    exports = read_exports(lines, left, right, names)
    imports = read_imports(lines, left, right, names)
    words = read_words(lines, left, right)
    modes = tuple(lines.words()[1:])
    lines.need(lines.begins("modes") and are_modes(modes))
    lines.go_on()
    lines.need_end()
    return (exports, imports, words, modes)


def read_exports(lines, left, right, names):
    """The exports that the next lines tell, at least one; their NAMES are put behind those told."""
    rows = []
    while rows == [] or lines.begins("export"):
        name = read_head(lines, "export", names)
        into = read_way(lines, left, right, "into", True)
        rows.append((name, into, read_way(lines, left, right, "out", True)))
    return tuple(sorted(rows))


def read_imports(lines, left, right, names):
    """The imports that the next lines tell; their NAMES are put behind those told."""
    rows = []
    while lines.begins("import"):
        name = read_head(lines, "import", names)
        out = read_way(lines, left, right, "out", False)
        rows.append((name, out, read_way(lines, left, right, "into", False)))
    return tuple(sorted(rows))


def read_head(lines, word, names):
    """The NAME in the first line of an export or import; it is put behind those told."""
    words = lines.words()
    lines.need(len(words) == 2 and words[0] == word and is_name(words[1]) and words[1] not in names)
    names.append(words[1])
    lines.go_on()
    return words[1]


def read_way(lines, left, right, place, things):
    """The WAY in the next line, or a thing where there may be things."""
    words = lines.words()
    lines.need(words[:1] == [place])
    if things and words[1:] == ["thing"]:
        way = THING
    else:
        raws = tuple(["" if word == REFUSED else word for word in words[3:]])
        way = tuple(words[1:3]) + (raws,)
        lines.need(is_crossing(left, right, place, way))
    lines.go_on()
    return way


def read_words(lines, left, right):
    """The words of a TABLE, in the next three lines."""
    mine, theirs = raws_of(left, "word"), raws_of(right, "word")
    out = read_lot(lines, "out", [theirs for word in mine])
    into = read_lot(lines, "into", [mine for word in theirs])
    return (out, into) + read_lot(lines, "refused", [mine, theirs, mine])


def read_lot(lines, head, lots):
    """One WORD out of each of these lots, from the next line."""
    words = lines.words()
    lines.need(words[:2] == ["words", head] and len(words) == 2 + len(lots))
    lines.need(all([word in lot for word, lot in zip(words[2:], lots)]))
    lines.go_on()
    return tuple(words[2:])
