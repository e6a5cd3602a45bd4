"""SIDES, TABLES and programs made by a random source with a told seed."""

import itertools
import random
import string

from besidealone.likeness import likeness
from besidealone.tables import is_level, is_passable

POWERS = ("again", "catch", "keep", "same")
MODES = (("crosses", "stops"), ("live", "tabled"), ("let", "barred"), ("kept", "fresh"))


def names(source, many, barred=()):
    """So many unlike NAMES, in order, at most three letters long."""
    found = set()
    while len(found) < many:
        name = "".join(source.choice(string.ascii_lowercase) for _ in range(source.randint(1, 3)))
        if name not in barred:
            found.add(name)
    return tuple(sorted(found))


def some(source, things):
    """Some of these things, in order."""
    return tuple([thing for thing in things if source.random() < 0.5])


def side(seed, kinds=3, raws=3, operations=3):
    """A SIDE with at most so many KINDS, RAWS of each and operations."""
    source = random.Random(seed)
    made = {"truth": ("no", "yes"), "word": names(source, source.randint(1, raws))}
    for kind in names(source, source.randint(0, kinds - 2), ("thing", "truth", "word")):
        made[kind] = names(source, source.randint(1, raws))
    return with_operations(source, made, source.randint(0, operations))


def full_side(seed):
    """A SIDE at the bounds: 5 KINDS of 8 RAWS, 8 operations of two arguments, all powers."""
    source = random.Random(seed)
    made = {"truth": ("no", "yes"), "word": names(source, 8)}
    for kind in ("aa", "bb", "cc"):
        made[kind] = names(source, 8)
    return with_operations(source, made, 8, 2)[:2] + (POWERS,)


def with_operations(source, made, many, takes=0):
    rows = []
    for name in names(source, many):
        taken = tuple(source.choice(sorted(made)) for _ in range(takes or source.randint(1, 2)))
        gives = source.choice(sorted(made))
        rows.append((name, taken, gives, tuple(source.choice(made[gives][:2 + source.randint(0, 6)]) for _ in
                                               itertools.product(*[made[kind] for kind in taken]))))
    return tuple(sorted(made.items())), tuple(rows), some(source, POWERS)


def way(source, begin, end, refusing):
    begins, ends = dict(begin[0]), dict(end[0])
    kind = source.choice([kind for kind in sorted(begins) if kind != "word"])
    other = source.choice([kind for kind in sorted(ends) if kind != "word"])
    good = ends[other] + (("",) if refusing else ())
    return kind, other, tuple([source.choice(good) for _ in begins[kind]])


def table(seed, left, right, exports=3, imports=3):
    """A TABLE with at most so many exports and imports."""
    source = random.Random(seed)
    faces = list(names(source, source.randint(1, exports) + source.randint(0, imports)))
    source.shuffle(faces)
    cut = source.randint(1, min(exports, len(faces)))
    out, back = [], []
    for name in sorted(faces[:cut]):
        ways = [way(source, right, left, True), way(source, left, right, False)]
        out.append((name, *[("thing",) if source.random() < 0.3 else one for one in ways]))
    for name in sorted(faces[cut:]):
        back.append((name, way(source, left, right, False), way(source, right, left, True)))
    mine, theirs = dict(left[0])["word"], dict(right[0])["word"]
    words = (tuple([source.choice(theirs) for _ in mine]), tuple([source.choice(mine) for _ in theirs]),
             source.choice(mine), source.choice(theirs), source.choice(mine))
    return tuple(out), tuple(back), words, tuple([source.choice(both) for both in MODES])


class Writer:
    """Writes the bodies of a program at random, so that all fits."""

    def __init__(self, seed, own, faces, sort):
        self.source = random.Random(seed)
        self.side, self.faces, self.sort = own, faces, sort
        self.kinds = [kind for kind, _ in own[0]] + ["thing"]
        self.cells = []
        if "keep" in own[2]:
            for name in names(self.source, self.source.randint(0, 3)):
                kind = self.source.choice(self.kinds)
                self.cells.append((name, kind, self.source.choice(dict(own[0]).get(kind, ("",)))))
        self.variables = {}

    def named(self, kind, places):
        return sorted([name for name, own in places if own == kind])

    def expression(self, kind, deep=2):
        """An EXPRESSION of a KIND, or thing, None if there is none."""
        choices = [("name", name) for name in self.named(kind, self.variables.items())]
        choices += [("cell", row[0]) for row in self.cells if row[1] == kind]
        if kind != "thing":
            choices += [("raw", kind, self.source.choice(dict(self.side[0])[kind]))]
        for row in self.side[1]:
            if deep and row[2] == kind:
                choices.append(("do", row[0], tuple([self.expression(own, deep - 1) for own in row[1]])))
        if kind == "truth" and "same" in self.side[2] and self.expression("thing"):
            choices.append(("same", self.expression("thing"), self.expression("thing")))
        return self.source.choice(choices) if choices else None

    def block(self, answers, called, place, deep, many=3):
        rows = [self.statement(answers, called, place, deep) for _ in range(self.source.randint(0, many))]
        return tuple([row for row in rows if row and None not in row])

    def statement(self, answers, called, place, deep):
        """A STATEMENT, or something with None in it."""
        source = self.source
        heads = ["let", "put", "call", "if", "while", "fail", "say" if place == "main" else "answer"]
        heads += ["try"] if "catch" in self.side[2] else []
        heads += ["make", "look"] if place == "part" else []
        head = source.choice(heads)
        name = source.choice(sorted(self.variables) or [None])
        kind = self.variables.get(name)
        if head == "let":
            return name and (head, name, self.expression(kind))
        if head == "put":
            row = source.choice(self.cells or [None])
            return row and (head, row[0], self.expression(row[1]))
        if head == "call":
            face = source.choice(list(called) or [None])
            into = face and self.named(face[2], self.variables.items())
            return into and (head, source.choice(into), face[0], self.expression(face[1]))
        if head == "make":
            return kind == "thing" and (head, name, self.expression(source.choice(self.kinds[:-1])))
        if head == "look":
            return kind not in (None, "thing") and (head, name, self.expression("thing"))
        if head in ("if", "while", "try") and not deep:
            return None
        inner = [self.block(answers, called, place, deep - 1) for _ in range(2)] if deep else []
        if head == "if":
            return head, self.expression("truth"), inner[0], inner[1]
        if head == "while":
            return head, self.expression("truth"), inner[0]
        if head == "try":
            caught = self.named("word", self.variables.items())
            return caught and (head, inner[0], source.choice(caught), inner[1])
        return head, *[self.last(head, answers)]

    def last(self, head, answers):
        if head == "say":
            return self.source.choice(("no", "yes"))
        return self.expression("word" if head == "fail" else answers)

    def body(self, face, called, place):
        self.variables = {name: self.source.choice(self.kinds) for name in names(self.source, 4, ("given",))}
        if face:
            self.variables["given"] = face[1]
        statements = self.block(face[2] if face else None, called, place, 3, 6)
        return tuple(sorted(self.variables.items())), statements


def part(seed, own, faces):
    """A PART."""
    writer = Writer(seed, own, faces, "part")
    bodies = [writer.body(face, faces[1], "part") for face in faces[0]]
    return tuple(writer.cells), tuple(bodies)


def partner(seed, own, faces):
    """A PARTNER."""
    writer = Writer(seed, own, faces, "partner")
    main = writer.body(None, faces[0], "main")
    called = faces[0] if "again" in own[2] else ()
    return tuple(writer.cells), main, tuple([writer.body(face, called, "body") for face in faces[1]])


class Lively(Writer):
    """Writes programs that call, ask and hand over a lot: there is a variable of each KIND, and two of things."""

    def begin(self, face):
        self.variables = {"v" + str(kind)[:8]: kind for kind in self.kinds[:-1]}
        self.variables.update({"tone": "thing", "ttwo": "thing"})
        if face:
            self.variables["given"] = face[1]
        # Those of things that surely have one.
        self.sure = {name for name, kind in self.variables.items() if (name, kind) == ("given", "thing")}

    def thing(self):
        names = sorted(self.sure) or ["tone"]
        cells = [("cell", row[0]) for row in self.cells if row[1] == "thing" and self.source.random() < 0.3]
        return self.source.choice([("name", name) for name in names] + cells)

    def expression(self, kind, deep=2):
        if kind == "thing":
            return self.thing()
        if kind == "truth" and "same" in self.side[2] and self.sure:
            if self.source.random() < 0.4:
                return "same", self.thing(), self.thing()
        return super().expression(kind, deep)

    def target(self, kind):
        return self.source.choice([name for name, own in sorted(self.variables.items()) if own == kind])

    def call(self, called):
        """A call, () if there is nothing to call."""
        rows = [row for row in called if row[1] != "thing" or self.sure or self.source.random() < 0.1]
        if not rows:
            return ()
        name, takes, answers = self.source.choice(rows)
        argument = self.expression(takes)
        target = self.target(answers)
        if answers == "thing":
            self.sure.add(target)
        row = ("call", target, name, argument)
        if "catch" in self.side[2] and self.source.random() < 0.5:
            if answers == "thing" and target != "given":
                self.sure.discard(target)
            return ("try", (row,), self.target("word"), ())
        return row

    def small(self, called, answers, place):
        """A STATEMENT without blocks, () if there is none."""
        source = self.source
        head = source.choice(["call"] * 6 + ["let", "put", "put"] + (["make", "make", "look"] if place == "part" else []))
        if head == "call":
            return self.call(called)
        if head == "put":
            row = source.choice(self.cells or [()])
            return row and ("put", row[0], self.expression(row[1]))
        if head == "make":
            target = self.target("thing")
            row = ("make", target, self.expression(source.choice(self.kinds[:-1])))
            self.sure.add(target)
            return row
        name = source.choice(sorted(self.variables))
        kind = self.variables[name]
        if head == "look":
            return ("look", self.target("truth"), self.thing()) if self.sure else ()
        if kind == "thing":
            return ()
        return ("let", name, self.expression(kind))

    def row(self, called, answers, place, many):
        return tuple([one for one in [self.small(called, answers, place) for _ in range(many)] if one])

    def last_one(self, answers, place):
        """What a body ends with."""
        source = self.source
        if place == "main":
            return ("if", self.expression("truth"), (("say", "yes"),), ((("say", "no"),) if source.random() < 0.5 else ()))
        if source.random() < 0.15:
            return "fail", self.expression("word")
        if answers == "thing" and not self.sure and place == "part":
            return "make", "tone", self.expression("truth")
        return "answer", self.expression(answers)

    def body(self, face, called, place):
        self.begin(face)
        source = self.source
        answers = face[2] if face else None
        rows = list(self.row(called, answers, place, source.randint(0, 4)))
        if source.random() < 0.5:
            sure = set(self.sure)
            blocks = []
            for _ in range(2):
                self.sure = set(sure)
                block = self.row(called, answers, place, source.randint(0, 2))
                if source.random() < 0.3:
                    block += (self.last_one(answers, place),)
                blocks.append(block)
            self.sure = sure
            head = source.choice(["if", "if", "while"])
            rows.append(("if", self.expression("truth"), *blocks) if head == "if" else
                        ("while", self.expression("truth"), blocks[0]))
        rows += list(self.row(called, answers, place, source.randint(0, 2)))
        if source.random() < 0.93:
            rows.append(self.last_one(answers, place))
            if rows[-1][0] == "make":
                rows.append(("answer", ("name", "tone")))
        return tuple(sorted(self.variables.items())), tuple(rows)


def lively_part(seed, own, faces, sort="part"):
    """A PART; no same stands in it if the sort is plain."""
    if sort == "plain":
        own = own[:2] + (tuple([power for power in own[2] if power != "same"]),)
    writer = Lively(seed, own, faces, "part")
    return tuple(writer.cells), tuple([writer.body(face, faces[1], "part") for face in faces[0]])


def lively_partner(seed, own, faces):
    """A PARTNER."""
    writer = Lively(seed, own, faces, "partner")
    main = writer.body(None, faces[0], "main")
    called = faces[0] if "again" in own[2] else ()
    return tuple(writer.cells), main, tuple([writer.body(face, called, "body") for face in faces[1]])


def level_table(seed, left, right, exports=2, imports=2):
    """A TABLE that is PASSABLE and LEVEL."""
    at = seed * 1000
    while True:
        found = table(at, left, right, exports, imports)
        if is_passable(found) and is_level(left, right, found):
            return found
        at += 1


def raw_places(thing, path=()):
    """The paths to all EXPRESSIONS ("raw", kind, raw) within a program."""
    if isinstance(thing, tuple):
        if thing[:1] == ("raw",) and len(thing) == 3:
            yield path
        else:
            for at, item in enumerate(thing):
                yield from raw_places(item, path + (at,))


def exchanged(thing, path, new):
    """The value with another one at a path."""
    if not path:
        return new
    return thing[:path[0]] + (exchanged(thing[path[0]], path[1:], new),) + thing[path[0] + 1:]


def at_path(thing, path):
    for step in path:
        thing = thing[step]
    return thing


def block_places(thing, path=()):
    """The paths to all STATEMENTS within a program that are no block's only one."""
    heads = ("let", "put", "call", "if", "while", "try", "make", "look", "fail", "answer")
    if isinstance(thing, tuple):
        if thing[:1] and thing[0] in heads and len(thing) > 1:
            yield path
        for at, item in enumerate(thing):
            yield from block_places(item, path + (at,))


def varied(seed, own, program):
    """A program like another one, but for one thing, or for nothing that anybody can tell."""
    source = random.Random(seed)
    lots = dict(likeness(own))
    way = source.random()
    # A cell of things may be called raw.
    places = [path for path in raw_places(program) if at_path(program, path)[1] in lots]
    if way < 0.6 and places:
        path = source.choice(places)
        _, kind, raw = at_path(program, path)
        lot = [lot for lot in lots[kind] if raw in lot][0]
        new = source.choice(lot if source.random() < 0.7 else dict(own[0])[kind])
        return exchanged(program, path, ("raw", kind, new))
    places = list(block_places(program))
    if way < 0.8 and places:
        path = source.choice(places)
        block = at_path(program, path[:-1])
        return exchanged(program, path[:-1], block[:path[-1]] + block[path[-1] + 1:])
    if places:
        path = source.choice(places)
        block = at_path(program, path[:-1])
        return exchanged(program, path[:-1], block[:path[-1]] + (block[path[-1]],) + block[path[-1]:])
    return program


class Aimed:
    """Writes PARTNERS that try one row: what an import does depends on its turn, if the SIDE has KEEP, and its argument."""

    def __init__(self, seed, own, faces):
        self.source = random.Random(seed)
        self.side, self.faces = own, faces
        many = self.source.randint(2, 6) if "keep" in own[2] else 0
        self.cells = tuple([("n" + letter, "truth", "no") for letter in string.ascii_lowercase[:many]])
        self.names = {"v" + kind[:8]: kind for kind, _ in own[0]}
        self.names["w"] = "word"

    def raw(self, kind):
        return "raw", kind, self.source.choice(dict(self.side[0])[kind])

    def grown(self, expression, kind, deep):
        """An EXPRESSION of truth made from another one, None if none was found."""
        if kind == "truth" and (deep == 0 or self.source.random() < 0.7):
            return expression
        rows = [row for row in self.side[1] if kind in row[1]]
        if not rows or not deep:
            return None
        name, takes, gives, _ = self.source.choice(rows)
        place = self.source.choice([at for at, own in enumerate(takes) if own == kind])
        parts = tuple([expression if at == place else self.raw(own) for at, own in enumerate(takes)])
        return self.grown(("do", name, parts), gives, deep - 1)

    def test(self, kind, name):
        found = [self.grown(("name", name), kind, 3) for _ in range(5)]
        return ([one for one in found if one] or [None])[0]

    def saying(self, kind, name):
        asked = self.test(kind, name)
        if not asked or self.source.random() < 0.3:
            return ()
        said = (("say", self.source.choice(("yes", "no"))),)
        return (("if", asked, said, ()) if self.source.random() < 0.5 else ("if", asked, (), said),)

    def call(self):
        name, takes, answers = self.source.choice(self.faces[0])
        return answers, ("call", "v" + answers[:8], name, self.raw(takes))

    def main(self):
        rows = []
        for _ in range(self.source.choice((1, 1, 2, 3))):
            answers, row = self.call()
            block = (row,) + self.saying(answers, row[1])
            if "catch" in self.side[2] and self.source.random() < 0.7:
                block = (("try", block, "w", self.saying("word", "w")),)
            rows.extend(block)
        return tuple(rows) + ((("say", "yes"),) if self.source.random() < 0.7 else ())

    def action(self, answers, deep=2):
        """What an import does at one turn."""
        way = self.source.random()
        if way < 0.15:
            return (("fail", self.raw("word")),)
        if way < 0.22:
            return ()
        if way < 0.5 and "again" in self.side[2] and deep:
            got, row = self.call()
            behind = self.action(answers, deep - 1)
            asked = self.test(got, row[1])
            if asked and self.source.random() < 0.5:
                behind = (("if", asked, behind, self.action(answers, deep - 1)),)
            if "catch" in self.side[2] and self.source.random() < 0.7:
                return (("try", (row,), "w", self.action(answers, deep - 1)),) + behind
            return (row,) + behind
        return (("answer", self.raw(answers)),)

    def turn(self, takes, answers, deep=2):
        asked = self.test(takes, "given")
        if asked and deep and self.source.random() < 0.6:
            return (("if", asked, self.turn(takes, answers, deep - 1), self.turn(takes, answers, deep - 1)),)
        return self.action(answers)

    def body(self, takes, answers):
        block = self.turn(takes, answers)
        for name, _, _ in self.cells if self.source.random() < 0.8 else ():
            done = ("put", name, ("raw", "truth", "yes"))
            block = (("if", ("cell", name), block, (done,) + self.turn(takes, answers)),)
        return tuple(sorted({**self.names, "given": takes}.items())), block


def aimed_partner(seed, own, faces):
    """A PARTNER that is likely to part PARTS which are not ALIKE; the FACES have no things."""
    writer = Aimed(seed, own, faces)
    main = tuple(sorted(writer.names.items())), writer.main()
    return writer.cells, main, tuple([writer.body(takes, answers) for _, takes, answers in faces[1]])
