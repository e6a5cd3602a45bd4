"""SIDES, TABLES and programs made by a random source with a told seed."""

import itertools
import random
import string

POWERS = ("again", "catch", "keep", "same")
MODES = (("crosses", "stops"), ("live", "tabled"), ("let", "barred"), ("kept", "fresh"))


def names(source, many, barred=()):
    """So many unlike NAMES, in order, at most three letters long."""
    found = set()
    while len(found) < many:
        name = "".join(source.choice(string.ascii_lowercase) for _ in range(source.randint(1, 3)))
        if name not in barred:
            found.add(name)
    return tuple(sorted(found))


def some(source, things):
    """Some of these things, in order."""
    return tuple([thing for thing in things if source.random() < 0.5])


def side(seed, kinds=3, raws=3, operations=3):
    """A SIDE with at most so many KINDS, RAWS of each and operations."""
    source = random.Random(seed)
    made = {"truth": ("no", "yes"), "word": names(source, source.randint(1, raws))}
    for kind in names(source, source.randint(0, kinds - 2), ("thing", "truth", "word")):
        made[kind] = names(source, source.randint(1, raws))
    return with_operations(source, made, source.randint(0, operations))


def full_side(seed):
    """A SIDE at the bounds: 5 KINDS of 8 RAWS, 8 operations of two arguments, all powers."""
    source = random.Random(seed)
    made = {"truth": ("no", "yes"), "word": names(source, 8)}
    for kind in ("aa", "bb", "cc"):
        made[kind] = names(source, 8)
    return with_operations(source, made, 8, 2)[:2] + (POWERS,)


def with_operations(source, made, many, takes=0):
    rows = []
    for name in names(source, many):
        taken = tuple(source.choice(sorted(made)) for _ in range(takes or source.randint(1, 2)))
        gives = source.choice(sorted(made))
        rows.append((name, taken, gives, tuple(source.choice(made[gives][:2 + source.randint(0, 6)]) for _ in
                                               itertools.product(*[made[kind] for kind in taken]))))
    return tuple(sorted(made.items())), tuple(rows), some(source, POWERS)


def way(source, begin, end, refusing):
    begins, ends = dict(begin[0]), dict(end[0])
    kind = source.choice([kind for kind in sorted(begins) if kind != "word"])
    other = source.choice([kind for kind in sorted(ends) if kind != "word"])
    good = ends[other] + (("",) if refusing else ())
    return kind, other, tuple([source.choice(good) for _ in begins[kind]])


def table(seed, left, right, exports=3, imports=3):
    """A TABLE with at most so many exports and imports."""
    source = random.Random(seed)
    faces = list(names(source, source.randint(1, exports) + source.randint(0, imports)))
    source.shuffle(faces)
    cut = source.randint(1, min(exports, len(faces)))
    out, back = [], []
    for name in sorted(faces[:cut]):
        ways = [way(source, right, left, True), way(source, left, right, False)]
        out.append((name, *[("thing",) if source.random() < 0.3 else one for one in ways]))
    for name in sorted(faces[cut:]):
        back.append((name, way(source, left, right, False), way(source, right, left, True)))
    mine, theirs = dict(left[0])["word"], dict(right[0])["word"]
    words = (tuple([source.choice(theirs) for _ in mine]), tuple([source.choice(mine) for _ in theirs]),
             source.choice(mine), source.choice(theirs), source.choice(mine))
    return tuple(out), tuple(back), words, tuple([source.choice(both) for both in MODES])


class Writer:
    """Writes the bodies of a program at random, so that all fits."""

    def __init__(self, seed, own, faces, sort):
        self.source = random.Random(seed)
        self.side, self.faces, self.sort = own, faces, sort
        self.kinds = [kind for kind, _ in own[0]] + ["thing"]
        self.cells = []
        if "keep" in own[2]:
            for name in names(self.source, self.source.randint(0, 3)):
                kind = self.source.choice(self.kinds)
                self.cells.append((name, kind, self.source.choice(dict(own[0]).get(kind, ("",)))))
        self.variables = {}

    def named(self, kind, places):
        return sorted([name for name, own in places if own == kind])

    def expression(self, kind, deep=2):
        """An EXPRESSION of a KIND, or thing, None if there is none."""
        choices = [("name", name) for name in self.named(kind, self.variables.items())]
        choices += [("cell", row[0]) for row in self.cells if row[1] == kind]
        if kind != "thing":
            choices += [("raw", kind, self.source.choice(dict(self.side[0])[kind]))]
        for row in self.side[1]:
            if deep and row[2] == kind:
                choices.append(("do", row[0], tuple([self.expression(own, deep - 1) for own in row[1]])))
        if kind == "truth" and "same" in self.side[2] and self.expression("thing"):
            choices.append(("same", self.expression("thing"), self.expression("thing")))
        return self.source.choice(choices) if choices else None

    def block(self, answers, called, place, deep, many=3):
        rows = [self.statement(answers, called, place, deep) for _ in range(self.source.randint(0, many))]
        return tuple([row for row in rows if row and None not in row])

    def statement(self, answers, called, place, deep):
        """A STATEMENT, or something with None in it."""
        source = self.source
        heads = ["let", "put", "call", "if", "while", "fail", "say" if place == "main" else "answer"]
        heads += ["try"] if "catch" in self.side[2] else []
        heads += ["make", "look"] if place == "part" else []
        head = source.choice(heads)
        name = source.choice(sorted(self.variables) or [None])
        kind = self.variables.get(name)
        if head == "let":
            return name and (head, name, self.expression(kind))
        if head == "put":
            row = source.choice(self.cells or [None])
            return row and (head, row[0], self.expression(row[1]))
        if head == "call":
            face = source.choice(list(called) or [None])
            into = face and self.named(face[2], self.variables.items())
            return into and (head, source.choice(into), face[0], self.expression(face[1]))
        if head == "make":
            return kind == "thing" and (head, name, self.expression(source.choice(self.kinds[:-1])))
        if head == "look":
            return kind not in (None, "thing") and (head, name, self.expression("thing"))
        if head in ("if", "while", "try") and not deep:
            return None
        inner = [self.block(answers, called, place, deep - 1) for _ in range(2)] if deep else []
        if head == "if":
            return head, self.expression("truth"), inner[0], inner[1]
        if head == "while":
            return head, self.expression("truth"), inner[0]
        if head == "try":
            caught = self.named("word", self.variables.items())
            return caught and (head, inner[0], source.choice(caught), inner[1])
        return head, *[self.last(head, answers)]

    def last(self, head, answers):
        if head == "say":
            return self.source.choice(("no", "yes"))
        return self.expression("word" if head == "fail" else answers)

    def body(self, face, called, place):
        self.variables = {name: self.source.choice(self.kinds) for name in names(self.source, 4, ("given",))}
        if face:
            self.variables["given"] = face[1]
        statements = self.block(face[2] if face else None, called, place, 3, 6)
        return tuple(sorted(self.variables.items())), statements


def part(seed, own, faces):
    """A PART."""
    writer = Writer(seed, own, faces, "part")
    bodies = [writer.body(face, faces[1], "part") for face in faces[0]]
    return tuple(writer.cells), tuple(bodies)


def partner(seed, own, faces):
    """A PARTNER."""
    writer = Writer(seed, own, faces, "partner")
    main = writer.body(None, faces[0], "main")
    called = faces[0] if "again" in own[2] else ()
    return tuple(writer.cells), main, tuple([writer.body(face, called, "body") for face in faces[1]])
