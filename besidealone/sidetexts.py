"""SIDES as texts."""

from besidealone.errors import Wrong
from besidealone.forms import is_lot
from besidealone.lines import Lines
from besidealone.sides import POWERS, is_kind, is_operation


def show_side(side):
    """The text of a SIDE."""
    kinds, operations, powers = side
    lines = [" ".join(["kind", kind] + list(raws)) for kind, raws in kinds]
    for name, takes, gives, results in operations:
        lines.append(" ".join(["operation", name] + list(takes) + ["->", gives, ":"] + list(results)))
    if powers:
        lines.append(" ".join(["powers"] + list(powers)))
    return "\n".join(lines)


def read_side(text):
    """The SIDE that a text shows."""
    if not isinstance(text, str):
        raise Wrong(0)
    lines = Lines(text)
    kinds = read_kinds(lines)
    operations = read_operations(lines, kinds)
    powers = read_powers(lines)
    lines.need_end()
    return (kinds, operations, powers)


def read_kinds(lines):
    """The KINDS that the next lines tell; behind them truth and word must have been told."""
    told = {}
    while lines.begins("kind"):
        words = lines.words()
        row = (words[1], tuple(words[2:])) if len(words) > 1 else ()
        lines.need(is_kind(row) and row[0] not in told)
        told[row[0]] = row
        lines.go_on()
    lines.need("truth" in told and "word" in told)
    return tuple([told[kind] for kind in sorted(told)])


def read_operations(lines, kinds):
    """The operations over these KINDS that the next lines tell."""
    told = {}
    while lines.begins("operation"):
        row = operation_in(lines.words()[1:])
        lines.need(is_operation(kinds, row) and row[0] not in told)
        told[row[0]] = row
        lines.go_on()
    return tuple([told[name] for name in sorted(told)])


def operation_in(words):
    """The operation that words seem to tell, () if they have not the form."""
    if "->" not in words:
        return ()
    at = words.index("->")
    if words[at + 2:at + 3] != [":"]:
        return ()
    return (words[0], tuple(words[1:at]), words[at + 1], tuple(words[at + 3:]))


def read_powers(lines):
    """The powers that the next line tells, if it is one of powers."""
    if not lines.begins("powers"):
        return ()
    powers = tuple(lines.words()[1:])
    lines.need(powers != () and is_lot(POWERS, powers))
    lines.go_on()
    return powers
