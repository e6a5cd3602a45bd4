"""PARTS and PARTNERS as texts."""

from besidealone.errors import Wrong
from besidealone.forms import is_name
from besidealone.lines import Lines
from besidealone.programs import are_cells, fits, is_kind_or_thing, main_scope, part_scope, partner_scope
from besidealone.sides import has, is_side, operation
from besidealone.tables import is_faces

# The longest EXPR, in words.
LONGEST = 60


def show_part(side, faces, part):
    """The text of a PART."""
    cells, bodies = part
    return "\n".join(shown_cells(cells) + shown_bodies(faces[0], bodies))


def show_partner(side, faces, partner):
    """The text of a PARTNER."""
    cells, main, bodies = partner
    return "\n".join(shown_cells(cells) + shown_body("main", main) + shown_bodies(faces[1], bodies))


def shown_cells(cells):
    """The lines of cells."""
    return [" ".join(["cell", name, kind] + ([] if kind == "thing" else [raw])) for name, kind, raw in cells]


def shown_bodies(rows, bodies):
    """The lines of the bodies of these rows of FACES."""
    return [line for row, body in zip(rows, bodies) for line in shown_body("body " + row[0], body)]


def shown_body(head, body):
    """The lines of a body."""
    names, statements = body
    lines = [head] + ["  var " + name + " " + kind for name, kind in names if name != "given"]
    return lines + shown_block(statements) + ["end"]


def shown_block(statements):
    """The lines of STATEMENTS that stand in a body."""
    lines = []
    # What is still to be shown, each with its depth: lines, and STATEMENTS.
    waiting = deeper(1, statements)
    while waiting:
        depth, item = waiting.pop()
        if isinstance(item, str):
            lines.append("  " * depth + item)
        else:
            lines.append("  " * depth + first_line(item))
            waiting.extend(behind_first(depth, item))
    return lines


def deeper(depth, statements):
    """STATEMENTS with their depth, the last one first."""
    return [(depth, statement) for statement in statements[::-1]]


def first_line(statement):
    """The first line of a STATEMENT."""
    head = statement[0]
    if head in ("try", "say"):
        return " ".join(statement[:1] if head == "try" else statement)
    if head in ("if", "while"):
        return " ".join([head] + shown_expression(statement[1]))
    return " ".join(list(statement[:-1]) + shown_expression(statement[-1]))


def behind_first(depth, statement):
    """What is to be shown behind the first line of a STATEMENT, the last of it first."""
    head = statement[0]
    if head not in ("if", "while", "try"):
        return []
    rows = [(depth, "end")]
    if head == "while":
        return rows + deeper(depth + 1, statement[2])
    rows = rows + deeper(depth + 1, statement[3])
    if head == "if":
        return rows + [(depth, "else")] + deeper(depth + 1, statement[2])
    return rows + [(depth, "catch " + statement[2])] + deeper(depth + 1, statement[1])


def shown_expression(expression):
    """The words of an EXPR."""
    head = expression[0]
    if head == "raw":
        return [expression[1] + "." + expression[2]]
    if head == "name":
        return [expression[1]]
    if head == "cell":
        return ["@" + expression[1]]
    first = "!" + expression[1] if head == "do" else "="
    parts = expression[2] if head == "do" else expression[1:]
    return [first] + [word for part in parts for word in shown_expression(part)]


def read_part(side, faces, text):
    """The PART that a text shows."""
    lines = lines_for(side, faces, text)
    cells = read_cells(lines, side)
    bodies = []
    for face in faces[0]:
        names = read_head(lines, side, ["body", face[0]], face[1])
        bodies.append((names, read_block(lines, part_scope(side, faces, cells, names, face))))
    lines.need_end()
    return (cells, tuple(bodies))


def read_partner(side, faces, text):
    """The PARTNER that a text shows."""
    lines = lines_for(side, faces, text)
    cells = read_cells(lines, side)
    names = read_head(lines, side, ["main"], "")
    main = (names, read_block(lines, main_scope(side, faces, cells, names)))
    bodies = []
    for face in faces[1]:
        names = read_head(lines, side, ["body", face[0]], face[1])
        bodies.append((names, read_block(lines, partner_scope(side, faces, cells, names, face))))
    lines.need_end()
    return (cells, main, tuple(bodies))


def lines_for(side, faces, text):
    """The Lines of a text, if all three are as described."""
    if not is_side(side):
        raise Wrong(0)
    if not is_faces(side, faces):
        raise Wrong(1)
    if not isinstance(text, str):
        raise Wrong(2)
    return Lines(text)


def read_cells(lines, side):
    """The cells that the next lines tell."""
    told = {}
    while lines.begins("cell"):
        words = lines.words()
        row = tuple(words[1:] + ([""] if words[2:] == ["thing"] else []))
        lines.need(are_cells(side, (row,)) and row[0] not in told)
        told[row[0]] = row
        lines.go_on()
    return tuple([told[name] for name in sorted(told)])


def read_head(lines, side, words, takes):
    """Reads the first line of a body, and those of its variables; takes is the KIND of given, "" if there is none."""
    lines.need(lines.words() == words)
    lines.go_on()
    told = {} if takes == "" else {"given": takes}
    while lines.begins("var"):
        row = lines.words()[1:]
        lines.need(len(row) == 2 and is_name(row[0]) and row[0] != "given" and is_kind_or_thing(side, row[1]))
        lines.need(row[0] not in told)
        told[row[0]] = row[1]
        lines.go_on()
    return tuple([(name, told[name]) for name in sorted(told)])


class Open:
    """A STATEMENT with blocks, or a body, whose last line is still to come."""

    def __init__(self, head, parts):
        self.head = head
        # What is known of the STATEMENT, and the STATEMENTS of the block that is being read.
        self.parts = parts
        self.block = []

    def shut(self):
        """Ends the block that is being read."""
        self.parts.append(tuple(self.block))
        self.block = []


def read_block(lines, scope):
    """The STATEMENTS of a body, up to its end."""
    # Not by a call within a call: the blocks of a text may be very deep.
    waiting = [Open("body", [])]
    while waiting:
        words = lines.words()
        last = waiting[-1]
        if words == ["end"]:
            lines.need(last.head in ("body", "else", "while", "catch"))
            last.shut()
            waiting.pop()
            if waiting:
                waiting[-1].block.append(tuple(last.parts))
        elif words[:1] in (["else"], ["catch"]):
            read_middle(lines, scope, last, words)
        elif words[:1] in (["if"], ["while"], ["try"]):
            waiting.append(read_begin(lines, scope, words))
        else:
            last.block.append(read_plain(lines, scope, words))
        lines.go_on()
    return last.parts[0]


def read_begin(lines, scope, words):
    """The first line of a STATEMENT with blocks."""
    head = words[0]
    if head == "try":
        lines.need(len(words) == 1 and has(scope.side, "catch"))
        return Open(head, [head])
    begin = (head, expression_in(scope.side, words[1:]))
    # What stands in the blocks is looked at when they are read.
    lines.need(fits(scope, begin + ((), ())[:2 if head == "if" else 1]))
    return Open(head, list(begin))


def read_middle(lines, scope, last, words):
    """The line between both blocks of an if or a try."""
    last.shut()
    if words[0] == "else":
        lines.need(last.head == "if" and len(words) == 1)
    else:
        lines.need(last.head == "try" and len(words) == 2 and fits(scope, ("try", (), words[1], ())))
        last.parts.append(words[1])
    last.head = words[0]


def read_plain(lines, scope, words):
    """A STATEMENT without blocks."""
    head = words[0] if words else ""
    # How many words stand ahead of the EXPR.
    ahead = {"let": 2, "put": 2, "call": 3, "make": 2, "look": 2, "answer": 1, "fail": 1}
    if head == "say":
        statement = tuple(words)
    else:
        lines.need(head in ahead)
        many = ahead[head]
        statement = tuple(words[:many]) + (expression_in(scope.side, words[many:]),)
    lines.need(fits(scope, statement))
    return statement


def expression_in(side, words):
    """The EXPRESSION that words seem to tell, () if they have not the form."""
    if len(words) > LONGEST:
        return ()
    found, behind = read_expression(side, words, 0)
    return found if behind == len(words) else ()


def read_expression(side, words, at):
    """The EXPRESSION whose words begin at an index, and the index behind it; () if they have not the form."""
    if at >= len(words):
        return (), at
    word = words[at]
    if word == "=" or word[0] == "!":
        return read_parts(side, words, at)
    if word[0] == "@":
        return ("cell", word[1:]), at + 1
    if "." in word:
        return (tuple(["raw"] + word.split(".")) if word.count(".") == 1 else ()), at + 1
    return ("name", word), at + 1


def read_parts(side, words, at):
    """The same of an EXPRESSION that has others within."""
    word = words[at]
    row = None if word == "=" else operation(side, word[1:])
    if word != "=" and row is None:
        return (), at
    at = at + 1
    parts = []
    for _ in range(2 if word == "=" else len(row[1])):
        part, at = read_expression(side, words, at)
        parts.append(part)
    if word == "=":
        return ("same", parts[0], parts[1]), at
    return ("do", row[0], tuple(parts)), at
