"""PARTS and PARTNERS: what they are, and what they use."""

from besidealone.forms import are_named, is_row
from besidealone.sides import TRUTHS, has, is_raw, kinds_of, operation

# How long a STATEMENT is, and where its EXPRESSION and its blocks stand in it (0: it has no EXPRESSION).
LENGTHS = {"let": 3, "put": 3, "call": 4, "make": 3, "look": 3, "if": 4, "while": 3, "try": 4,
           "answer": 2, "fail": 2, "say": 2}
EXPRESSIONS = {"let": 2, "put": 2, "call": 3, "make": 2, "look": 2, "if": 1, "while": 1, "try": 0,
               "answer": 1, "fail": 1, "say": 0}
BLOCKS = {"if": (2, 3), "while": (2,), "try": (1, 3)}


class Scope:
    """What the STATEMENTS of one body may name and do."""

    def __init__(self, side, cells, names):
        self.side = side
        self.cells = {name: kind for name, kind, raw in cells}
        self.names = {name: kind for name, kind in names}
        # The faces that it may call, and what its own face answers: "" where it has none.
        self.called = {}
        self.answers = ""
        self.makes = False
        self.says = False


def kind_in(kinds, name):
    """The KIND, or thing, that any value has as a NAME in a dict of these, "" if it is not there."""
    return kinds.get(name, "") if isinstance(name, str) else ""


def kind_of(scope, thing):
    """The KIND, or thing, that any value has as an EXPRESSION, "" if it is none."""
    if is_row(2, thing) and thing[0] == "name":
        return kind_in(scope.names, thing[1])
    if is_row(2, thing) and thing[0] == "cell":
        return kind_in(scope.cells, thing[1])
    if not is_row(3, thing):
        return ""
    if thing[0] == "raw":
        return thing[1] if is_raw(scope.side, thing[1], thing[2]) else ""
    if thing[0] == "do":
        return kind_of_do(scope, operation(scope.side, thing[1]), thing[2])
    if thing[0] == "same" and has(scope.side, "same"):
        return "truth" if [kind_of(scope, part) for part in thing[1:]] == ["thing", "thing"] else ""
    return ""


def kind_of_do(scope, row, thing):
    """The KIND that an operation, or None, gives with any value for its EXPRESSIONS, "" if they don't fit."""
    if row is None or not is_row(len(row[1]), thing):
        return ""
    return row[2] if tuple([kind_of(scope, part) for part in thing]) == row[1] else ""


def fits_let(scope, thing):
    """Whether a let fits."""
    kind = kind_in(scope.names, thing[1])
    return kind != "" and kind_of(scope, thing[2]) == kind


def fits_put(scope, thing):
    """Whether a put fits."""
    kind = kind_in(scope.cells, thing[1])
    return kind != "" and kind_of(scope, thing[2]) == kind


def fits_call(scope, thing):
    """Whether a call fits."""
    if not isinstance(thing[2], str) or thing[2] not in scope.called:
        return False
    takes, answers = scope.called[thing[2]]
    return kind_in(scope.names, thing[1]) == answers and kind_of(scope, thing[3]) == takes


def fits_make(scope, thing):
    """Whether a make fits."""
    content = kind_of(scope, thing[2])
    return scope.makes and kind_in(scope.names, thing[1]) == "thing" and content not in ("", "thing")


def fits_look(scope, thing):
    """Whether a look fits."""
    kind = kind_in(scope.names, thing[1])
    return scope.makes and kind not in ("", "thing") and kind_of(scope, thing[2]) == "thing"


def fits_asking(scope, thing):
    """Whether an if or a while fits, whatever stands in its blocks."""
    return kind_of(scope, thing[1]) == "truth"


def fits_try(scope, thing):
    """Whether a try fits, whatever stands in its blocks."""
    return has(scope.side, "catch") and kind_in(scope.names, thing[2]) == "word"


def fits_answer(scope, thing):
    """Whether an answer fits."""
    return scope.answers != "" and kind_of(scope, thing[1]) == scope.answers


def fits_fail(scope, thing):
    """Whether a fail fits."""
    return kind_of(scope, thing[1]) == "word"


def fits_say(scope, thing):
    """Whether a say fits."""
    return scope.says and thing[1] in TRUTHS


FITS = {"let": fits_let, "put": fits_put, "call": fits_call, "make": fits_make, "look": fits_look,
        "if": fits_asking, "while": fits_asking, "try": fits_try, "answer": fits_answer, "fail": fits_fail,
        "say": fits_say}


def fits(scope, thing):
    """Whether any value is a STATEMENT that fits, whatever stands in its blocks."""
    if not isinstance(thing, tuple) or thing == () or not isinstance(thing[0], str):
        return False
    if thing[0] not in LENGTHS or LENGTHS[thing[0]] != len(thing):
        return False
    check = FITS[thing[0]]
    return check(scope, thing)


def blocks_of(statement):
    """What stands where a STATEMENT has its blocks, in order."""
    return [statement[at] for at in BLOCKS.get(statement[0], ())]


def is_block(scope, thing):
    """Whether any value is a tuple of STATEMENTS that fit, those within others, too."""
    # Not by a call within a call: programs that were made from runs may have very deep blocks.
    waiting = [thing]
    while waiting:
        block = waiting.pop()
        if not isinstance(block, tuple) or not all([fits(scope, statement) for statement in block]):
            return False
        for statement in block:
            waiting.extend(blocks_of(statement))
    return True


def is_kind_or_thing(side, kind):
    """Whether any value is a KIND of a SIDE, or thing."""
    return kind == "thing" or kind in kinds_of(side)


def are_cells(side, thing):
    """Whether any value is the cells of a program."""
    if not are_named(3, thing) or (thing != () and not has(side, "keep")):
        return False
    return all([raw == "" if kind == "thing" else is_raw(side, kind, raw) for name, kind, raw in thing])


def are_variables(side, takes, thing):
    """Whether any value is the variables of a body that takes a KIND, or a thing, or ""."""
    if not are_named(2, thing) or not all([is_kind_or_thing(side, kind) for name, kind in thing]):
        return False
    given = [kind for name, kind in thing if name == "given"]
    return given == ([] if takes == "" else [takes])


def called_by(rows):
    """What the faces in rows of FACES take and answer, by their NAMES."""
    return {name: (takes, answers) for name, takes, answers in rows}


def part_scope(side, faces, cells, names, face):
    """The Scope of the body of an export in a PART."""
    scope = Scope(side, cells, names)
    scope.called = called_by(faces[1])
    scope.answers = face[2]
    scope.makes = True
    return scope


def main_scope(side, faces, cells, names):
    """The Scope of main."""
    scope = Scope(side, cells, names)
    scope.called = called_by(faces[0])
    scope.says = True
    return scope


def partner_scope(side, faces, cells, names, face):
    """The Scope of the body of an import in a PARTNER."""
    scope = Scope(side, cells, names)
    scope.called = called_by(faces[0]) if has(side, "again") else {}
    scope.answers = face[2]
    return scope


def is_part(side, faces, thing):
    """Whether any value is a PART for a SIDE and FACES."""
    if not is_row(2, thing) or not are_cells(side, thing[0]) or not is_row(len(faces[0]), thing[1]):
        return False
    cells, bodies = thing
    for face, body in zip(faces[0], bodies):
        if not is_row(2, body) or not are_variables(side, face[1], body[0]):
            return False
        if not is_block(part_scope(side, faces, cells, body[0], face), body[1]):
            return False
    return True


def is_partner(side, faces, thing):
    """Whether any value is a PARTNER for a SIDE and FACES."""
    if not is_row(3, thing) or not are_cells(side, thing[0]) or not is_row(len(faces[1]), thing[2]):
        return False
    cells, main, bodies = thing
    if not is_row(2, main) or not are_variables(side, "", main[0]):
        return False
    if not is_block(main_scope(side, faces, cells, main[0]), main[1]):
        return False
    for face, body in zip(faces[1], bodies):
        if not is_row(2, body) or not are_variables(side, face[1], body[0]):
            return False
        if not is_block(partner_scope(side, faces, cells, body[0], face), body[1]):
            return False
    return True


def statements_of(block):
    """All STATEMENTS of a block, those within others, too."""
    found = []
    waiting = [block]
    while waiting:
        statements = waiting.pop()
        found.extend(statements)
        for statement in statements:
            waiting.extend(blocks_of(statement))
    return found


def bodies_of(program):
    """All bodies of a PART or PARTNER, main first."""
    if len(program) == 2:
        return list(program[1])
    return [program[1]] + list(program[2])


def statements_in(program):
    """All STATEMENTS of a PART or PARTNER."""
    return [statement for body in bodies_of(program) for statement in statements_of(body[1])]


def asks_same(expression):
    """Whether a same stands in an EXPRESSION."""
    if expression[0] == "do":
        return any([asks_same(part) for part in expression[2]])
    return expression[0] == "same"


def uses_same(statement):
    """Whether a same stands in the EXPRESSION of a STATEMENT."""
    at = EXPRESSIONS[statement[0]]
    return at > 0 and asks_same(statement[at])


def calls_again(program):
    """Whether a program is a PARTNER in which a body of an import calls."""
    if len(program) == 2:
        return False
    return any([row[0] == "call" for body in program[2] for row in statements_of(body[1])])


def powers_of(program):
    """The powers that a PART or PARTNER uses."""
    statements = statements_in(program)
    used = []
    if calls_again(program):
        used.append("again")
    if any([statement[0] == "try" for statement in statements]):
        used.append("catch")
    if program[0] != ():
        used.append("keep")
    if any([uses_same(statement) for statement in statements]):
        used.append("same")
    return tuple(used)


def size_of(program):
    """How many STATEMENTS a PART or PARTNER has."""
    return len(statements_in(program))


def faces_of(program):
    """The NAMES of the FACES that a PART or PARTNER calls."""
    return tuple(sorted({row[2] for row in statements_in(program) if row[0] == "call"}))
