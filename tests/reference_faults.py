"""The sentences of [8] and [9], told once more over couples of RAWS."""

import itertools

from tests import reference

THING = ("thing",)


class Alike:
    """Which RAWS of a SIDE are ALIKE: the depths of TERMS that tell them apart are looked up once."""

    def __init__(self, side):
        self.side = side
        self.raws = dict(side[0])
        self.apart = {kind: reference.depths(side, kind) for kind in self.raws}

    def __call__(self, kind, one, other):
        return (one, other) not in self.apart[kind]

    def couples(self, kind):
        """All couples of two unlike RAWS, the less one first, with whether they are ALIKE."""
        return [(one, other, self(kind, one, other)) for one, other in itertools.combinations(self.raws[kind], 2)]

    def reaches(self, kind, ends):
        """Whether these RAWS lie in all CLASSES."""
        return all(any(self(kind, raw, end) for end in ends) for raw in self.raws[kind])


class Faults:

    def __init__(self, left, right, table):
        self.left, self.right, self.table = Alike(left), Alike(right), table
        self.mine, self.theirs = left[2], right[2]
        self.exports, self.imports, self.words, self.modes = table
        self.outs = [(name, out) for name, _, out in self.exports if out != THING]
        self.outs += [(name, out) for name, out, _ in self.imports]
        self.intos = [(name, into) for name, into, _ in self.exports if into != THING]
        self.intos += [(name, into) for name, _, into in self.imports]
        self.out_words = ("word", "word", self.words[0])
        into = dict(zip(self.right.raws["word"], self.words[1]))
        self.again = [into[word] for word in self.words[0]]
        self.twice = any(into == out == THING for _, into, out in self.exports) or (
            "keep" in self.mine and any(out == THING for _, _, out in self.exports))

    def couple(self, way, is_alike):
        """The least couple that is ALIKE on the left and not on the right, or the other way about."""
        begin, end, ends = way
        led = dict(zip(self.left.raws[begin], ends))
        for one, other, alike in self.left.couples(begin):
            if alike == is_alike and self.right(end, led[one], led[other]) != is_alike:
                return one, other
        return None

    def couple_again(self):
        led = dict(zip(self.left.raws["word"], self.again))
        for one, other, alike in self.left.couples("word"):
            if alike and not self.left("word", led[one], led[other]):
                return one, other
        return None

    def even(self):
        out = dict(zip(self.left.raws["word"], self.words[0]))
        led = {word: out[end] for word, end in zip(self.right.raws["word"], self.words[1])}
        return all(not alike or self.right("word", led[one], led[other]) for one, other, alike in self.right.couples("word"))

    def classes(self, kind):
        raws = self.left.raws[kind]
        return sorted({tuple([other for other in raws if self.left(kind, one, other)]) for one in raws})

    def missed(self, way):
        return tuple([lot for lot in self.classes(way[1]) if not set(lot) & set(way[2])])

    def missed_words(self, face):
        into = [row[2] for row in self.imports if row[0] == face][0]
        ends = set(self.words[1]) | ({self.words[2]} if "" in into[2] else set())
        return tuple([lot for lot in self.classes("word") if not set(lot) & ends])

    def tight(self):
        failing, imports, again, handles = self.modes
        found = {("T1", name) for name, way in self.outs if self.couple(way, True)}
        none_live = not self.imports or imports == "tabled"
        same_words = self.couple(self.out_words, True) is None
        if not (failing == "stops" or ("catch" in self.mine and same_words) or ("catch" not in self.theirs and (
                none_live or again == "barred" or "again" not in self.theirs or "catch" not in self.mine
                or self.couple_again() is None))):
            found.add(("T2",))
        if not (none_live or "keep" not in self.theirs or "keep" in self.mine):
            found.add(("T3",))
        if not (none_live or again == "barred" or "again" not in self.theirs or "again" in self.mine or "keep" not in self.mine):
            found.add(("T4",))
        if not (handles == "fresh" or "same" not in self.theirs or "same" in self.mine or not self.twice):
            found.add(("T5",))
        return tuple(sorted(found))

    def faithful(self):
        failing, imports, again, handles = self.modes
        found = {("F1", name) for name, way in self.outs if self.couple(way, False)}
        found |= {("F2", name) for name, way in self.intos if self.missed(way)}
        if "catch" in self.mine and not ("catch" in self.theirs and failing == "crosses" and not self.couple(self.out_words, False)
                                         and not any(self.missed_words(row[0]) for row in self.imports)):
            found.add(("F3",))
        if not (not self.imports or ("keep" not in self.mine and (imports == "live" or "catch" not in self.mine or failing == "stops"))
                or ("keep" in self.mine and "keep" in self.theirs and imports == "live")):
            found.add(("F4",))
        if not (not self.imports or "again" not in self.mine or "keep" not in self.mine or ("again" in self.theirs and again == "let")):
            found.add(("F5",))
        if not ("same" not in self.mine or not self.twice or ("same" in self.theirs and handles == "kept")):
            found.add(("F6",))
        return tuple(sorted(found))
