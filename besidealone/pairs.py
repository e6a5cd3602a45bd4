"""Couples of small PARTS, which do one thing in two ways; their other exports go on for ever."""

from besidealone.grounds import GIVEN, YES, block_of, maker_of, over_and_back, plain_of
from besidealone.sides import raws_of
from besidealone.tables import faces
from besidealone.telling import choice, filled

NO = ("raw", "truth", "no")
# It makes a thing and answers it.
MADE = (("make", "t", ("raw", "truth", "no")), ("answer", ("name", "t")))


def part_of(table, cells, asked, bodies):
    """A PART with these bodies, a dict from exports to STATEMENTS; the other ones are empty.

    The import that it asks is told, "" if it asks none: the variable x has what this one answers.
    """
    imports = {name: answers for name, takes, answers in faces(table)[1]}
    found = []
    for name, takes, answers in faces(table)[0]:
        names = {"given": takes, "t": "thing", "w": "word"}
        if asked != "":
            names["x"] = imports[asked]
        found.append(block_of(names, bodies.get(name, ())))
    return (cells, tuple(found))


def answering(left, table, face):
    """The STATEMENTS with which a body of an export answers something, always the same."""
    answers = {name: kind for name, takes, kind in faces(table)[0]}[face]
    if answers == "thing":
        return MADE
    return (("answer", ("raw", answers, raws_of(left, answers)[0])),)


def asking(left, table, face, raw):
    """A call of an import, with its first RAW if none is told."""
    takes = {name: kind for name, kind, answers in faces(table)[1]}[face]
    return ("call", "x", face, ("raw", takes, raws_of(left, takes)[0] if raw == "" else raw))


def where_alike(side, kind, raw, expression, rows, others):
    """STATEMENTS that are these where an EXPRESSION gives a RAW ALIKE to this one, and others elsewhere."""
    for found, truth in choice(side, kind, raw):
        blocks = (rows, others) if truth == "yes" else (others, rows)
        rows = (("if", filled(found, expression)) + blocks,)
    return rows


def both(table, cells, name, asked, bodies):
    """Two PARTS, with these STATEMENTS for one export; asked is the import that they ask, "" if they ask none."""
    return tuple([part_of(table, cells, asked, {name: rows}) for rows in bodies])


def answering_apart(table, face, couple):
    """An export answers one or the other RAW; where it takes a thing another one makes it."""
    takes, answers = {row[0]: row[1:] for row in faces(table)[0]}[face]
    found = []
    for raw in couple:
        rows = {face: (("answer", ("raw", answers, raw)),)}
        if takes == "thing":
            rows[maker_of(table)] = MADE
        found.append(part_of(table, (), "", rows))
    return tuple(found)


def asking_apart(left, table, face, couple):
    """It asks an import with one or the other RAW."""
    name = plain_of(table)
    rows = [(asking(left, table, face, raw),) + answering(left, table, name) for raw in couple]
    return both(table, (), name, face, rows)


def failing_apart(table, words):
    """It FAILS with one or the other WORD, or, where one is "", goes on for ever."""
    rows = [() if word == "" else (("fail", ("raw", "word", word)),) for word in words]
    return both(table, (), plain_of(table), "", rows)


def once_or_twice(left, table):
    """It asks the first import once or twice."""
    name, face = plain_of(table), table[1][0][0]
    ask = asking(left, table, face, "")
    return both(table, (), name, face, [(ask,) * many + answering(left, table, name) for many in (1, 2)])


def tried_or_not(left, table):
    """It answers, or tries an import ahead of that."""
    name, face = plain_of(table), table[1][0][0]
    answer = answering(left, table, name)
    return both(table, (), name, face, [answer, (("try", (asking(left, table, face, ""),), "w", ()),) + answer])


def called_while_waiting(left, table):
    """It answers, or goes on for ever, if it was called while it waited.

    A call that comes while busy says yes does the same with both, whether main or an import calls: where the first
    import has FAILED nobody puts no there.
    """
    name, face = plain_of(table), table[1][0][0]
    answer = answering(left, table, name)
    found = []
    for rows in (answer, ()):
        behind = ("if", ("cell", "hit"), rows, (("put", "busy", NO),) + answer)
        begin = (("put", "busy", YES), asking(left, table, face, ""), behind)
        found.append((("if", ("cell", "busy"), (("put", "hit", YES),) + answer, begin),))
    return both(table, (("busy", "truth", "no"), ("hit", "truth", "no")), name, face, found)


def again_or_new(table):
    """It answers one thing twice, or two of the same content."""
    maker, handed = maker_of(table), over_and_back(table)
    if handed != "":
        found = [{maker: MADE, handed: rows} for rows in ((("answer", GIVEN),), MADE)]
        return tuple([part_of(table, (), "", rows) for rows in found])
    kept = (("make", "t", NO), ("put", "kept", ("name", "t")), ("put", "made", YES), ("answer", ("name", "t")))
    again = (("if", ("cell", "made"), (("answer", ("cell", "kept")),), kept),)
    cells = (("kept", "thing", ""), ("made", "truth", "no"))
    return (part_of(table, cells, "", {maker: again}), part_of(table, (), "", {maker: MADE}))


def catching_inner(left, table, caught, words):
    """It answers if an import FAILS by this WORD, and FAILS by one or the other WORD if by an unlike one."""
    name, face = plain_of(table), table[1][0][0]
    found = []
    for word in words:
        fail = (("fail", ("raw", "word", word)),)
        rows = where_alike(left, "word", caught, ("name", "w"), answering(left, table, name), fail)
        found.append((("try", (asking(left, table, face, ""),), "w", rows),))
    return both(table, (), name, face, found)


def answering_at_argument(left, table, face, raw):
    """An export answers, or goes on for ever, where its argument is ALIKE to a RAW; else it goes on for ever."""
    takes = {name: kind for name, kind, answers in faces(table)[0]}[face]
    rows = where_alike(left, takes, raw, GIVEN, answering(left, table, face), ())
    return both(table, (), face, "", [rows, ()])


def answering_at_reply(left, table, face, raw):
    """It answers, or goes on for ever, where an import answers a RAW ALIKE to this one; else it goes on for ever."""
    name = plain_of(table)
    answers = {own: kind for own, takes, kind in faces(table)[1]}[face]
    rows = where_alike(left, answers, raw, ("name", "x"), answering(left, table, name), ())
    ask = (asking(left, table, face, ""),)
    return both(table, (), name, face, [ask + rows, ask])


def answering_at_word(left, table, face, word):
    """It answers, or goes on for ever, where an import FAILS by a WORD ALIKE to this one; else it goes on for ever."""
    name = plain_of(table)
    rows = where_alike(left, "word", word, ("name", "w"), answering(left, table, name), ())
    ask = (asking(left, table, face, ""),)
    return both(table, (), name, face, [(("try", ask, "w", rows),), (("try", ask, "w", ()),)])
