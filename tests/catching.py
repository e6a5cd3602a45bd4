"""PARTS that catch what comes through an import, and go on behind that in many ways, out of told seeds."""

import random

KINDS = (("bit", ("i", "o")), ("truth", ("no", "yes")), ("word", ("bad", "deep", "off")))
TELLS = (("isbad", ("word",), "truth", ("yes", "no", "no")), ("isdeep", ("word",), "truth", ("no", "yes", "no")),
         ("on", ("bit",), "truth", ("yes", "no")))
WAY = ("bit", "bit", ("i", "o"))
FOR_EVER = ("while", ("raw", "truth", "yes"), ())
MAKING = ("while", ("raw", "truth", "yes"), (("make", "t", ("raw", "bit", "i")),))
NAMES = (("given", "bit"), ("t", "thing"), ("w", "word"), ("x", "bit"))


class Writer:

    def __init__(self, seed, imports, cells):
        self.source = random.Random(seed)
        self.imports, self.cells = imports, cells

    def bit(self):
        named = [("name", "given"), ("name", "x")] + [("cell", name) for name, _, _ in self.cells]
        return self.source.choice(named + [("raw", "bit", "i"), ("raw", "bit", "o")])

    def truth(self):
        return ("do", "on", (self.bit(),)) if self.source.random() < 0.6 else (
            "do", self.source.choice(("isbad", "isdeep")), (("name", "w"),))

    def call(self):
        return ("call", "x", self.source.choice(self.imports), self.bit())

    def last(self):
        """What ends a body, or has it go on for ever: so that a run tells, or not."""
        source = self.source
        asking = ("while", ("raw", "truth", "yes"), (("try", (self.call(),), "w", ()),))
        fail = ("fail", ("name", "w") if source.random() < 0.5 else ("raw", "word", source.choice(("bad", "deep", "off"))))
        return source.choice([("answer", self.bit())] * 4 + [fail, fail, FOR_EVER, MAKING, asking])

    def small(self, deep):
        source = self.source
        head = source.choice(("try", "try", "try", "call", "if", "let", "put"))
        if head == "try":
            return ("try", (self.call(),), "w", self.block(deep - 1, 1) if deep else ())
        if head == "if" and deep:
            return ("if", self.truth(), self.block(deep - 1, 1), self.block(deep - 1, 1))
        if head == "put" and self.cells:
            return ("put", source.choice(self.cells)[0], self.bit())
        return self.call() if head == "call" else ("let", "x", self.bit())

    def block(self, deep, many):
        rows = [self.small(deep) for _ in range(self.source.randint(0, many))]
        return tuple(rows + [self.last()]) if self.source.random() < 0.5 else tuple(rows)

    def body(self):
        rows = [self.small(2) for _ in range(self.source.randint(1, 3))]
        return NAMES, tuple(rows + [self.last()])

    def part(self, exports):
        return self.cells, tuple([self.body() for _ in range(exports)])

    def changed(self, rows):
        """STATEMENTS with one of them exchanged, or left out, at any depth."""
        at = self.source.randrange(len(rows))
        row = rows[at]
        if row[0] in ("if", "try") and self.source.random() < 0.6:
            places = [place for place in ((1, 3) if row[0] == "try" else (2, 3)) if row[place]]
            if places:
                place = self.source.choice(places)
                return rows[:at] + (row[:place] + (self.changed(row[place]),) + row[place + 1:],) + rows[at + 1:]
        if at == len(rows) - 1:
            return rows[:at] + (self.last(),)
        return rows[:at] + self.source.choice(((), (self.small(1),))) + rows[at + 1:]


class Caller(Writer):
    """Writes PARTNERS whose imports make INNER calls, and look at what comes of them."""

    def end(self, name):
        """How a body ends; main has no name."""
        if not name:
            return ("say", "yes")
        return ("fail", ("raw", "word", "off")) if self.source.random() < 0.2 else ("answer", self.bit())

    def rows(self, name):
        """A call, or some, and what is done behind it, by what it gives; given is there but in main."""
        source, found = self.source, []
        for _ in range(source.randint(1, 2)):
            call = ("call", "x", source.choice(self.imports), ("raw", "bit", source.choice("io")))
            found.append(("try", (call,), "w", source.choice(((FOR_EVER,), (self.end(name),), ()))) if source.random() < 0.6 else call)
            if source.random() < 0.5:
                blocks = [(), (source.choice((FOR_EVER, self.end(name))),)]
                source.shuffle(blocks)
                found.append(("if", ("do", "on", (("name", "x"),)), *blocks))
        if name and source.random() < 0.5:
            blocks = [tuple(found), ()]
            source.shuffle(blocks)
            found = [("if", ("do", "on", (("name", "given"),)), *blocks)]
        return tuple(found + [self.end(name)])

    def partner(self, told):
        names = (("w", "word"), ("x", "bit"))
        return (), (names, self.rows("")), tuple([(NAMES[:1] + names, self.rows(name)) for name, _, _ in told[1]])


def partner(seed, told):
    """A PARTNER for a SIDE with AGAIN and CATCH."""
    return Caller(seed, [name for name, _, _ in told[0]], ()).partner(told)


def scene(seed, is_plain=False):
    """A left SIDE with CATCH, a right one, a TABLE with imports, and two PARTS; if plain, nothing is gained or lost."""
    source = random.Random(seed)
    left, right = [(KINDS, TELLS, tuple([power for power in ("again", "catch", "keep") if power == sure or source.random() < more]))
                   for sure, more in (("catch", 0.6), ("", 0.7))]
    ways = [WAY, WAY, WAY, ("bit", "bit", ("i", "")), ("bit", "bit", ("", "o")), ("bit", "bit", ("o", "o"))]
    if is_plain:
        right, ways = left, [WAY]
    exports = [(name, source.choice(ways), WAY) for name in ("f", "g")[:source.randint(1, 2)]]
    imports = [(name, WAY, source.choice(ways)) for name in ("ask", "beg")[:source.randint(1, 2)]]
    into = source.choice((("bad", "deep", "off"), ("bad", "off", "off"), ("off", "bad", "bad"), ("off", "off", "off")))
    words = (("bad", "deep", "off"), into) + tuple([source.choice(("bad", "deep", "off")) for _ in range(3)])
    modes = (source.choice(("crosses", "crosses", "stops")), source.choice(("live", "live", "tabled")),
             source.choice(("let", "let", "barred")), "kept")
    if is_plain:
        words, modes = (words[0], words[0]) + words[2:], ("crosses", "live", "let", "kept")
    cells = (("c", "bit", "i"),) if "keep" in left[2] and source.random() < 0.4 else ()
    writer = Writer(seed, [name for name, _, _ in imports], cells)
    one = writer.part(len(exports))
    bodies = [(names, writer.changed(rows)) if source.random() < 0.6 else (names, rows) for names, rows in one[1]]
    other = (cells, tuple(bodies)) if source.random() < 0.7 else writer.part(len(exports))
    return left, right, (tuple(exports), tuple(imports), words, modes), one, other
