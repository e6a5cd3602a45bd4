"""PARTS and PARTNERS made ready to be run: each body is a row of acts."""

from besidealone.acts import NO_THING, answer_act, ask_act, call_act, cell_reader, end_act, fail_act, forget_act
from besidealone.acts import go_act, guarded_act, if_act, jump_act, let_act, let_thing_act, look_act, make_act
from besidealone.acts import name_reader, one_reader, put_act, put_thing_act, raw_reader, same_reader, say_act
from besidealone.acts import two_reader
from besidealone.sides import raws_of, rows_of


class Body:
    """A body made ready: what stands at each of its places, and what its variables have at first."""

    def __init__(self, first, given):
        self.first = first
        # The index of the variable given, -1 in main.
        self.given = given
        self.acts = []
        # Whether what stands there is a STEP.
        self.costs = []
        # The label and the variable of the innermost try around it, () if there is none.
        self.tries = []
        # The variable that has what a call there gives, and the face that it calls.
        self.gets = []
        self.called = []
        self.labels = []

    def new_label(self):
        """The number of a label that stands nowhere yet."""
        self.labels.append(0)
        return len(self.labels) - 1

    def mark(self, label):
        """Has a label stand at the next place."""
        self.labels[label] = len(self.acts)

    def lay(self, costs, act, around):
        """Puts an act that is no call at the next place."""
        self.lay_call(costs, act, around, -1, "")

    def lay_call(self, costs, act, around, gets, called):
        """Puts an act at the next place."""
        self.acts.append(act)
        self.costs.append(costs)
        self.tries.append(around)
        self.gets.append(gets)
        self.called.append(called)


class Scheme:
    """What the acts of one body are made from."""

    def __init__(self, side, results, cells, names, body):
        self.results = results
        self.gives = {row[0]: row[2] for row in side[1]}
        self.cell_kinds = {name: kind for name, kind, raw in cells}
        self.cell_places = {row[0]: at for at, row in enumerate(cells)}
        self.kinds = {name: kind for name, kind in names}
        self.places = {row[0]: at for at, row in enumerate(names)}
        self.body = body


class Program:
    """A PART or PARTNER made ready: what its cells have at first, main, and its bodies by their faces."""

    def __init__(self, side, faces, program):
        results = results_of(side)
        cells = program[0]
        self.first = [NO_THING if kind == "thing" else raw for name, kind, raw in cells]
        self.main = made_ready(side, results, cells, program[1]) if len(program) == 3 else None
        self.bodies = {}
        for face, body in zip(faces, program[-1]):
            self.bodies[face[0]] = made_ready(side, results, cells, body)


def results_of(side):
    """For each operation a dict from the RAW, or the RAWS, that it takes to the RAW that it gives."""
    found = {}
    for name, takes, gives, results in side[1]:
        rows = rows_of(side, takes)
        asked = [row[0] if len(takes) == 1 else row for row in rows]
        found[name] = dict(zip(asked, results))
    return found


def made_ready(side, results, cells, body):
    """The Body of a body of a program with these cells."""
    names, statements = body
    first = [NO_THING if kind == "thing" else raws_of(side, kind)[0] for name, kind in names]
    told = [name for name, kind in names]
    ready = Body(first, told.index("given") if "given" in told else -1)
    lay_block(Scheme(side, results, cells, names, ready), statements)
    ready.lay(False, end_act, ())
    return ready


def lay_block(scheme, statements):
    """Lays the acts of STATEMENTS."""
    # Not by a call within a call: programs that were made from runs may have very deep blocks.
    waiting = [("block", statements, ())]
    while waiting:
        task = waiting.pop()
        if task[0] == "mark":
            scheme.body.mark(task[1])
        elif task[0] == "jump":
            scheme.body.lay(False, jump_act(scheme.body.labels, task[1]), ())
        elif task[0] == "block":
            waiting.extend([("one", statement, task[2]) for statement in task[1][::-1]])
        else:
            waiting.extend(lay_statement(scheme, task[1], task[2])[::-1])


def lay_statement(scheme, statement, around):
    """Lays the act with which a STATEMENT begins; returns what is to be laid behind it, in order."""
    head = statement[0]
    if head == "if":
        return lay_if(scheme, statement, around)
    if head == "while":
        return lay_while(scheme, statement, around)
    if head == "try":
        return lay_try(scheme, statement, around)
    lay_plain(scheme, statement, around)
    return []


def lay_if(scheme, statement, around):
    """Lays the begin of an if."""
    body = scheme.body
    other, end = body.new_label(), body.new_label()
    act = if_act(reader(scheme, statement[1]), body.labels, other)
    body.lay(True, guarded(scheme, statement[1], act), around)
    return [("block", statement[2], around), ("jump", end), ("mark", other), ("block", statement[3], around),
            ("mark", end)]


def lay_while(scheme, statement, around):
    """Lays the begin of a while: what an elder run of it asked is forgotten, then it asks."""
    body = scheme.body
    top, end = body.new_label(), body.new_label()
    body.lay(False, forget_act, around)
    body.mark(top)
    act = ask_act(reader(scheme, statement[1]), body.labels, end)
    body.lay(True, guarded(scheme, statement[1], act), around)
    return [("block", statement[2], around), ("jump", top), ("mark", end)]


def lay_try(scheme, statement, around):
    """Lays the begin of a try."""
    body = scheme.body
    caught, end = body.new_label(), body.new_label()
    body.lay(True, go_act, around)
    return [("block", statement[1], (caught, scheme.places[statement[2]])), ("jump", end), ("mark", caught),
            ("block", statement[3], around), ("mark", end)]


def lay_plain(scheme, statement, around):
    """Lays a STATEMENT without blocks."""
    if statement[0] == "say":
        scheme.body.lay(True, say_act(statement[1]), around)
        return
    expression = statement[-1]
    act = guarded(scheme, expression, plain_act(scheme, statement, reader(scheme, expression)))
    if statement[0] == "call":
        scheme.body.lay_call(True, act, around, scheme.places[statement[1]], statement[2])
    else:
        scheme.body.lay(True, act, around)


def plain_act(scheme, statement, read):
    """The act of a STATEMENT without blocks whose EXPRESSION is read so."""
    head = statement[0]
    if head == "let":
        act = let_thing_act if scheme.kinds[statement[1]] == "thing" else let_act
        return act(scheme.places[statement[1]], read)
    if head == "put":
        act = put_thing_act if scheme.cell_kinds[statement[1]] == "thing" else put_act
        return act(scheme.cell_places[statement[1]], read)
    if head == "call":
        return call_act(statement[2], read)
    if head == "make":
        return make_act(scheme.places[statement[1]], kind_given(scheme, statement[2]), read)
    if head == "look":
        return look_act(scheme.places[statement[1]], scheme.kinds[statement[1]], read)
    if head == "answer":
        return answer_act(read)
    return fail_act(read)


def guarded(scheme, expression, act):
    """The act of a STATEMENT with this EXPRESSION, which goes on for ever if a thing lacks."""
    needs = things_in(scheme, expression)
    return act if needs == [] else guarded_act(needs, act)


def kind_given(scheme, expression):
    """The KIND of an EXPRESSION, or thing."""
    if expression[0] == "raw":
        return expression[1]
    if expression[0] == "name":
        return scheme.kinds[expression[1]]
    if expression[0] == "cell":
        return scheme.cell_kinds[expression[1]]
    return "truth" if expression[0] == "same" else scheme.gives[expression[1]]


def things_in(scheme, expression):
    """The variables and cells of things in an EXPRESSION: tuples of whether it is a cell, and its index."""
    if expression[0] == "name":
        return [(False, scheme.places[expression[1]])] if scheme.kinds[expression[1]] == "thing" else []
    if expression[0] == "cell":
        return [(True, scheme.cell_places[expression[1]])] if scheme.cell_kinds[expression[1]] == "thing" else []
    if expression[0] == "raw":
        return []
    parts = expression[2] if expression[0] == "do" else expression[1:]
    return [row for part in parts for row in things_in(scheme, part)]


def reader(scheme, expression):
    """What reads an EXPRESSION."""
    head = expression[0]
    if head == "raw":
        return raw_reader(expression[2])
    if head == "name":
        return name_reader(scheme.places[expression[1]])
    if head == "cell":
        return cell_reader(scheme.cell_places[expression[1]])
    parts = [reader(scheme, part) for part in (expression[2] if head == "do" else expression[1:])]
    if head == "same":
        return same_reader(parts[0], parts[1])
    results = scheme.results[expression[1]]
    return one_reader(results, parts[0]) if len(parts) == 1 else two_reader(results, parts[0], parts[1])
