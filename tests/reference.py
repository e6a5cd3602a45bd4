"""What the document says, told once more in another way, to test the program against."""

import itertools
import re


def name_ok(thing):
    return type(thing) is str and re.fullmatch("[a-z]{1,12}", thing) is not None


def row_ok(thing, length):
    assert type(thing) is tuple and len(thing) == length


def names_ok(things):
    """Ascending NAMES."""
    assert type(things) is tuple and all(name_ok(thing) for thing in things)
    assert list(things) == sorted(set(things))


def holds(check, *given):
    """Whether a check goes through."""
    try:
        check(*given)
    except (AssertionError, TypeError, KeyError, IndexError, AttributeError):
        return False
    return True


def check_side(thing):
    row_ok(thing, 3)
    kinds, operations, powers = thing
    assert type(kinds) is tuple
    raws = {}
    for pair in kinds:
        row_ok(pair, 2)
        names_ok(pair[1])
        assert pair[1] and pair[0] != "thing"
        raws[pair[0]] = pair[1]
    names_ok(tuple([pair[0] for pair in kinds]))
    assert raws["truth"] == ("no", "yes") and raws["word"]
    assert type(operations) is tuple
    for row in operations:
        row_ok(row, 4)
        assert type(row[1]) is tuple and 1 <= len(row[1]) <= 2 and type(row[3]) is tuple
        assert len(row[3]) == len(list(itertools.product(*[raws[kind] for kind in row[1]])))
        for result in row[3]:
            assert result in raws[row[2]]
    names_ok(tuple([row[0] for row in operations]))
    names_ok(powers)
    assert set(powers) <= {"again", "catch", "keep", "same"}


def side_ok(thing):
    return holds(check_side, thing)


def results(side, row):
    """A dict from rows of RAWS to what an operation gives."""
    raws = dict(side[0])
    return dict(zip(itertools.product(*[raws[kind] for kind in row[1]]), row[3]))


def vectors(side, kind):
    """A dict from (KIND, values for all RAWS of the hole's KIND) to the least depth of a TERM with them."""
    raws = dict(side[0])
    found = {(kind, raws[kind]): 0}
    front = list(found)
    depth = 0
    while front:
        depth += 1
        new = []
        for given, values in front:
            for row in side[1]:
                new.extend(stepped(side, row, given, values))
        front = []
        for vector in new:
            if vector not in found:
                found[vector] = depth
                front.append(vector)
    return found


def stepped(side, row, given, values):
    """All vectors that an operation makes out of one, with RAWS at the other place."""
    raws, table = dict(side[0]), results(side, row)
    for place, kind in enumerate(row[1]):
        if kind == given:
            others = [raws[own] for at, own in enumerate(row[1]) if at != place]
            for rest in itertools.product(*others):
                yield row[2], tuple([table[rest[:place] + (value,) + rest[place:]] for value in values])


def depths(side, kind):
    """A dict from couples of RAWS to the least depth of a TERM that tells them apart; ALIKE ones are left out."""
    raws = dict(side[0])[kind]
    found = {}
    for (given, values), depth in sorted(vectors(side, kind).items(), key=lambda item: item[1]):
        if given == "truth":
            for (one, first), (other, second) in itertools.product(list(zip(raws, values)), repeat=2):
                if first != second:
                    found.setdefault((one, other), depth)
    return found


def classes(side, kind):
    raws, apart = dict(side[0])[kind], depths(side, kind)
    return tuple(sorted({tuple([other for other in raws if (one, other) not in apart]) for one in raws}))


def check_likeness(side, thing):
    row_ok(thing, len(side[0]))
    lot_of = {}
    for (kind, raws), pair in zip(side[0], thing):
        row_ok(pair, 2)
        assert pair[0] == kind and type(pair[1]) is tuple
        for lot in pair[1]:
            names_ok(lot)
            assert lot
            for raw in lot:
                assert raw in raws and (kind, raw) not in lot_of
                lot_of[kind, raw] = lot
        assert list(pair[1]) == sorted(pair[1])
        assert all((kind, raw) in lot_of for raw in raws)
    assert lot_of["truth", "no"] != lot_of["truth", "yes"]
    for row in side[1]:
        table = results(side, row)
        for one, other in itertools.product(table, repeat=2):
            if all(lot_of[kind, a] == lot_of[kind, b] for kind, a, b in zip(row[1], one, other)):
                assert lot_of[row[2], table[one]] == lot_of[row[2], table[other]]


def likeness_ok(side, thing):
    return holds(check_likeness, side, thing)


def check_term(side, kind, thing):
    """Returns the KIND it gives, how many holes it has, and how deep it is."""
    assert type(thing) is tuple
    if thing[:1] == ("hole",):
        row_ok(thing, 1)
        return kind, 1, 0
    row_ok(thing, 3)
    if thing[0] == "raw":
        assert thing[2] in dict(side[0])[thing[1]]
        return thing[1], 0, 0
    assert thing[0] == "do"
    _, takes, gives, _ = {row[0]: row for row in side[1]}[thing[1]]
    assert type(thing[2]) is tuple
    parts = [check_term(side, kind, part) for part in thing[2]]
    assert tuple([part[0] for part in parts]) == takes
    return gives, sum(part[1] for part in parts), 1 + max(part[2] for part in parts)


def term_ok(side, kind, thing):
    return holds(check_term, side, kind, thing) and check_term(side, kind, thing)[1] == 1


def term_value(side, term, raw):
    if term[0] == "hole":
        return raw
    if term[0] == "raw":
        return term[2]
    row = {row[0]: row for row in side[1]}[term[1]]
    return results(side, row)[tuple([term_value(side, part, raw) for part in term[2]])]


def check_rooms(exports, imports):
    for rows in (exports, imports):
        assert type(rows) is tuple
        for row in rows:
            row_ok(row, 3)
        names_ok(tuple([row[0] for row in rows]))
    assert exports
    assert not {row[0] for row in exports} & {row[0] for row in imports}


def check_faces(side, thing):
    row_ok(thing, 2)
    check_rooms(*thing)
    kinds = [kind for kind, _ in side[0] if kind != "word"]
    for rows, good in ((thing[0], kinds + ["thing"]), (thing[1], kinds)):
        for row in rows:
            assert row[1] in good and row[2] in good


def faces_ok(side, thing):
    return holds(check_faces, side, thing)


def check_way(begin, end, refusing, things, thing):
    if things and thing == ("thing",):
        return
    row_ok(thing, 3)
    begins, ends = dict(begin[0]), dict(end[0])
    assert thing[0] != "word" and thing[1] != "word"
    row_ok(thing[2], len(begins[thing[0]]))
    for raw in thing[2]:
        assert raw in ends[thing[1]] or (refusing and raw == "" and type(raw) is str)


def check_table(left, right, thing):
    row_ok(thing, 4)
    exports, imports, words, modes = thing
    check_rooms(exports, imports)
    for _, into, out in exports:
        check_way(right, left, True, True, into)
        check_way(left, right, False, True, out)
    for _, out, into in imports:
        check_way(left, right, False, False, out)
        check_way(right, left, True, False, into)
    row_ok(words, 5)
    mine, theirs = dict(left[0])["word"], dict(right[0])["word"]
    row_ok(words[0], len(mine))
    row_ok(words[1], len(theirs))
    for word in words[0] + (words[3],):
        assert word in theirs
    for word in words[1] + (words[2], words[4]):
        assert word in mine
    row_ok(modes, 4)
    assert modes in list(itertools.product(("crosses", "stops"), ("live", "tabled"), ("let", "barred"),
                                           ("kept", "fresh")))


def table_ok(left, right, thing):
    return holds(check_table, left, right, thing)


def level(left, right, table):
    """Whether a TABLE is LEVEL, by all couples of RAWS."""
    ways = [row[1] for row in table[0] if row[1] != ("thing",)] + [row[2] for row in table[1]]
    ways.append(("word", "word", table[2][1]))
    for begin, end, leads in ways:
        apart, ends = depths(right, begin), depths(left, end)
        raws = dict(right[0])[begin]
        for (one, first), (other, second) in itertools.product(list(zip(raws, leads)), repeat=2):
            if (one, other) not in apart:
                if (first == "") != (second == "") or (first, second) in ends:
                    return False
    return True


def expression_kind(side, variables, cells, thing):
    assert type(thing) is tuple
    if thing[0] in ("name", "cell"):
        row_ok(thing, 2)
        return {"name": variables, "cell": cells}[thing[0]][thing[1]]
    row_ok(thing, 3)
    if thing[0] == "raw":
        assert thing[2] in dict(side[0])[thing[1]]
        return thing[1]
    if thing[0] == "same":
        assert "same" in side[2]
        assert [expression_kind(side, variables, cells, part) for part in thing[1:]] == ["thing", "thing"]
        return "truth"
    assert thing[0] == "do" and type(thing[2]) is tuple
    _, takes, gives, _ = {row[0]: row for row in side[1]}[thing[1]]
    assert tuple([expression_kind(side, variables, cells, part) for part in thing[2]]) == takes
    return gives


def check_block(side, cells, variables, called, answers, place, thing):
    """Checks the STATEMENTS of a body; place is part, main or body."""
    def kind(expression):
        return expression_kind(side, variables, cells, expression)

    assert type(thing) is tuple
    for statement in thing:
        assert type(statement) is tuple and type(statement[0]) is str
        head, rest = statement[0], statement[1:]
        inner = []
        if head == "let":
            row_ok(rest, 2)
            assert variables[rest[0]] == kind(rest[1])
        elif head == "put":
            row_ok(rest, 2)
            assert cells[rest[0]] == kind(rest[1])
        elif head == "call":
            row_ok(rest, 3)
            assert called[rest[1]] == (kind(rest[2]), variables[rest[0]])
        elif head == "make":
            row_ok(rest, 2)
            assert place == "part" and variables[rest[0]] == "thing" and kind(rest[1]) != "thing"
        elif head == "look":
            row_ok(rest, 2)
            assert place == "part" and variables[rest[0]] != "thing" and kind(rest[1]) == "thing"
        elif head == "if":
            row_ok(rest, 3)
            assert kind(rest[0]) == "truth"
            inner = rest[1:]
        elif head == "while":
            row_ok(rest, 2)
            assert kind(rest[0]) == "truth"
            inner = rest[1:]
        elif head == "try":
            row_ok(rest, 3)
            assert "catch" in side[2] and variables[rest[1]] == "word"
            inner = rest[0::2]
        elif head == "answer":
            row_ok(rest, 1)
            assert place != "main" and kind(rest[0]) == answers
        elif head == "fail":
            row_ok(rest, 1)
            assert kind(rest[0]) == "word"
        else:
            row_ok(rest, 1)
            assert head == "say" and place == "main" and rest[0] in ("yes", "no")
        for block in inner:
            check_block(side, cells, variables, called, answers, place, block)


def check_names(side, thing, length):
    assert type(thing) is tuple
    for row in thing:
        row_ok(row, length)
        assert row[1] == "thing" or row[1] in dict(side[0])
    names_ok(tuple([row[0] for row in thing]))


def check_body(side, cells, called, face, place, thing):
    row_ok(thing, 2)
    check_names(side, thing[0], 2)
    variables = dict(thing[0])
    assert variables.get("given") == (face[1] if face else None)
    check_block(side, cells, variables, called, face[2] if face else None, place, thing[1])


def check_cells(side, thing):
    check_names(side, thing, 3)
    assert thing == () or "keep" in side[2]
    for _, kind, raw in thing:
        assert raw == "" if kind == "thing" else raw in dict(side[0])[kind]
    return {name: kind for name, kind, raw in thing}


def calls(rows):
    return {name: (takes, answers) for name, takes, answers in rows}


def check_part(side, faces, thing):
    row_ok(thing, 2)
    cells = check_cells(side, thing[0])
    row_ok(thing[1], len(faces[0]))
    for face, body in zip(faces[0], thing[1]):
        check_body(side, cells, calls(faces[1]), face, "part", body)


def part_ok(side, faces, thing):
    return holds(check_part, side, faces, thing)


def check_partner(side, faces, thing):
    row_ok(thing, 3)
    cells = check_cells(side, thing[0])
    check_body(side, cells, calls(faces[0]), None, "main", thing[1])
    row_ok(thing[2], len(faces[1]))
    for face, body in zip(faces[1], thing[2]):
        check_body(side, cells, calls(faces[0]) if "again" in side[2] else {}, face, "body", body)


def partner_ok(side, faces, thing):
    return holds(check_partner, side, faces, thing)
