"""Small PARTNERS, written on either SIDE, that look for what parts two PARTS."""

from besidealone.sides import raws_of
from besidealone.tables import THING, faces, let_by, right_faces
from besidealone.telling import filled, term, value_of

YES = ("raw", "truth", "yes")
SAY_YES = ("say", "yes")
# It goes on for ever, as nothing changes.
FOR_EVER = ("while", ("raw", "truth", "yes"), ())
GIVEN = ("name", "given")


class Ground:
    """A SIDE on which partners are written, with FACES, a RAW for each export, and one that each import may answer."""

    def __init__(self, side, told, sent, answered):
        self.side = side
        self.faces = told
        self.sent = sent
        self.answered = answered
        self.takes = {name: takes for name, takes, answers in told[0]}
        self.answers = {name: answers for name, takes, answers in told[0]}
        self.replies = {name: answers for name, takes, answers in told[1]}

    def word(self):
        """The WORD by which imports FAIL that are of no use, as an EXPRESSION."""
        return ("raw", "word", raws_of(self.side, "word")[0])

    def reply(self, name):
        """What an import may answer, as an EXPRESSION."""
        return ("raw", self.replies[name], self.answered[name])


def left_ground(left, table):
    """The Ground of partners ALONE."""
    told = faces(table)
    sent = {name: raws_of(left, takes)[0] for name, takes, answers in told[0] if takes != "thing"}
    return Ground(left, told, sent, {name: raws_of(left, answers)[0] for name, takes, answers in told[1]})


def right_ground(right, table):
    """The Ground of partners BESIDE: nothing that they send, or answer, is REFUSED."""
    sent = {name: let_by(right, into)[0] for name, into, out in table[0] if into != THING}
    answered = {name: let_by(right, into)[0] for name, out, into in table[1]}
    return Ground(right, right_faces(table), sent, answered)


def maker_of(table):
    """An export that takes no thing and answers one, "" if there is none."""
    for name, into, out in table[0]:
        if into != THING and out == THING:
            return name
    return ""


def plain_of(table):
    """An export that takes no thing; in a PASSABLE TABLE there is one."""
    return [name for name, into, out in table[0] if into != THING][0]


def block_of(names, statements):
    """A body, from a dict of the KINDS of its variables."""
    return (tuple(sorted(names.items())), tuple(statements))


def partner_of(ground, cells, main, bodies):
    """A PARTNER with these bodies of imports, a dict; the other ones FAIL."""
    found = []
    for name, takes, answers in ground.faces[1]:
        names, statements = bodies.get(name, ({}, [("fail", ground.word())]))
        given = {"given": takes}
        for variable in names:
            given[variable] = names[variable]
        found.append(block_of(given, statements))
    return (cells, main, tuple(found))


def call_of(ground, variable, face):
    """A call of an export that takes no thing."""
    return ("call", variable, face, ("raw", ground.takes[face], ground.sent[face]))


def told_apart(side, kind, couple, expression, rows, others):
    """STATEMENTS that are these where an EXPRESSION gives the first RAW of a couple, and others at the second one."""
    found = term(side, kind, couple[0], couple[1])
    if value_of(side, found, couple[0]) == "yes":
        return (("if", filled(found, expression), rows, others),)
    return (("if", filled(found, expression), others, rows),)


def saying_behind(ground, cells, face, bodies):
    """The PARTNER that says yes when a call of an export that takes no thing answers."""
    main = block_of({"x": ground.answers[face]}, [call_of(ground, "x", face), SAY_YES])
    return partner_of(ground, cells, main, bodies)


def telling_answers(ground, table, face, couple):
    """The PARTNER that says yes when an export answers the first RAW of a couple, and not at the second one."""
    rows = told_apart(ground.side, ground.answers[face], couple, ("name", "x"), (SAY_YES,), ())
    if ground.takes[face] == "thing":
        rows = (call_of(ground, "t", maker_of(table)), ("call", "x", face, ("name", "t"))) + rows
    else:
        rows = (call_of(ground, "x", face),) + rows
    return partner_of(ground, (), block_of({"t": "thing", "x": ground.answers[face]}, rows), {})


def telling_asks(ground, table, face, couple):
    """The PARTNER that says yes when an import is asked with the first RAW of a couple, and not at the second one."""
    takes = {name: kind for name, kind, answers in ground.faces[1]}[face]
    answer, fail = ("answer", ground.reply(face)), ("fail", ground.word())
    body = told_apart(ground.side, takes, couple, GIVEN, (answer,), (fail,))
    return saying_behind(ground, (), plain_of(table), {face: ({}, body)})


def telling_fails(ground, table, couple):
    """The PARTNER that says yes when a call FAILS, by the first WORD of a couple and not by the second one, if told."""
    face = plain_of(table)
    rows = (SAY_YES,)
    if couple != ():
        rows = told_apart(ground.side, "word", couple, ("name", "w"), rows, ())
    names = {"w": "word", "x": ground.answers[face]}
    return partner_of(ground, (), block_of(names, [("try", (call_of(ground, "x", face),), "w", rows)]), {})


def answering_once(ground, table):
    """The PARTNER whose first import answers once only."""
    face = table[1][0][0]
    later = (("put", "n", YES), ("answer", ground.reply(face)))
    body = [("if", ("cell", "n"), (("fail", ground.word()),), later)]
    return saying_behind(ground, (("n", "truth", "no"),), plain_of(table), {face: ({}, body)})


def calling_again(ground, table):
    """The PARTNER whose first import makes an INNER call, and answers behind it."""
    face, called = table[1][0][0], plain_of(table)
    body = [call_of(ground, "y", called), ("answer", ground.reply(face))]
    return saying_behind(ground, (), called, {face: ({"y": ground.answers[called]}, body)})


def asking_same(ground, table):
    """The PARTNER that says yes when a thing comes back as the same one."""
    handed = over_and_back(table)
    maker = maker_of(table)
    again = call_of(ground, "y", maker) if handed == "" else ("call", "y", handed, ("name", "x"))
    ask = ("if", ("same", ("name", "x"), ("name", "y")), (SAY_YES,), ())
    main = block_of({"x": "thing", "y": "thing"}, [call_of(ground, "x", maker), again, ask])
    return partner_of(ground, (), main, {})


def over_and_back(table):
    """An export that takes and answers a thing, "" if there is none."""
    for name, into, out in table[0]:
        if into == THING and out == THING:
            return name
    return ""
