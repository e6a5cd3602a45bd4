"""Texts of programs, told once more: a parser that goes down by calls, with the kinds asked at once."""

from tests import reference


class Bad(Exception):
    """The row at this index is bad."""


class Reader:

    def __init__(self, side, faces, rows, is_part):
        self.side, self.faces, self.rows, self.is_part = side, faces, rows, is_part
        self.at = 0
        self.cells, self.names, self.face, self.called = {}, {}, None, {}

    def need(self, good):
        if not good:
            raise Bad(self.at)

    def row(self):
        self.need(self.at < len(self.rows))
        return self.rows[self.at]

    def is_kind(self, word):
        return word == "thing" or word in dict(self.side[0])

    def program(self):
        cells = []
        while self.at < len(self.rows) and self.row()[0] == "cell":
            row = self.row()
            self.need("keep" in self.side[2] and len(row) > 2 and reference.name_ok(row[1]) and row[1] not in self.cells)
            self.need(self.is_kind(row[2]))
            if row[2] == "thing":
                self.need(len(row) == 3)
                cells.append((row[1], "thing", ""))
            else:
                self.need(len(row) == 4 and row[3] in dict(self.side[0])[row[2]])
                cells.append(tuple(row[1:]))
            self.cells[row[1]] = row[2]
            self.at += 1
        exports, imports = self.faces
        if self.is_part:
            told = (tuple(sorted(cells)), self.bodies(exports, imports))
        else:
            main = self.body(["main"], None, exports)
            told = (tuple(sorted(cells)), main, self.bodies(imports, exports if "again" in self.side[2] else ()))
        self.need(self.at == len(self.rows))
        return told

    def bodies(self, faces, called):
        return tuple([self.body(["body", face[0]], face, called) for face in faces])

    def body(self, head, face, called):
        self.need(self.row() == head)
        self.at += 1
        self.face, self.called = face, {row[0]: row[1:] for row in called}
        self.names = {"given": face[1]} if face else {}
        while self.at < len(self.rows) and self.row()[0] == "var":
            row = self.row()
            self.need(len(row) == 3 and reference.name_ok(row[1]) and row[1] not in self.names and row[1] != "given")
            self.need(self.is_kind(row[2]))
            self.names[row[1]] = row[2]
            self.at += 1
        names = tuple(sorted(self.names.items()))
        statements = self.block(("end",))
        return names, statements

    def block(self, ends):
        """STATEMENTS up to a row that begins with one of these, which is left behind."""
        found = []
        while self.row()[0] not in ends:
            found.append(self.statement())
        self.need(len(self.row()) == (2 if self.row()[0] == "catch" else 1))
        if self.row()[0] == "catch":
            self.need(self.names.get(self.row()[1]) == "word")
        self.at += 1
        return tuple(found)

    def statement(self):
        row = self.row()
        head, rest = row[0], row[1:]
        if head == "try":
            self.need(rest == [] and "catch" in self.side[2])
            self.at += 1
            first = self.block(("catch",))
            name = self.rows[self.at - 1][1]
            return "try", first, name, self.block(("end",))
        if head in ("if", "while"):
            asked = self.expression(rest, "truth")
            self.at += 1
            if head == "while":
                return head, asked, self.block(("end",))
            return head, asked, self.block(("else",)), self.block(("end",))
        told = self.plain(head, rest)
        self.at += 1
        return told

    def plain(self, head, rest):
        kinds = dict(self.side[0])
        if head in ("let", "put"):
            self.need(rest)
            kind = (self.names if head == "let" else self.cells).get(rest[0])
            self.need(kind is not None)
            return head, rest[0], self.expression(rest[1:], kind)
        if head == "call":
            self.need(len(rest) > 1 and rest[1] in self.called)
            takes, answers = self.called[rest[1]]
            self.need(self.names.get(rest[0]) == answers)
            return head, rest[0], rest[1], self.expression(rest[2:], takes)
        if head == "make":
            self.need(self.is_part and rest and self.names.get(rest[0]) == "thing")
            return head, rest[0], self.expression(rest[1:], *kinds)
        if head == "look":
            self.need(self.is_part and rest and self.names.get(rest[0]) in kinds)
            return head, rest[0], self.expression(rest[1:], "thing")
        if head == "answer":
            self.need(self.face)
            return head, self.expression(rest, self.face[2])
        if head == "fail":
            return head, self.expression(rest, "word")
        self.need(head == "say" and not self.is_part and not self.face and rest in (["no"], ["yes"]))
        return head, rest[0]

    def expression(self, words, *kinds):
        self.need(len(words) <= 60)
        told, kind, rest = self.parse(words)
        self.need(rest == [] and kind in kinds)
        return told

    def parse(self, words):
        """An EXPRESSION, its KIND, and the words behind it."""
        self.need(words)
        word, rest = words[0], words[1:]
        if word == "=":
            self.need("same" in self.side[2])
            one, kind, rest = self.parse(rest)
            other, second, rest = self.parse(rest)
            self.need(kind == second == "thing")
            return ("same", one, other), "truth", rest
        if word.startswith("!"):
            rows = [row for row in self.side[1] if row[0] == word[1:]]
            self.need(rows)
            parts = []
            for taken in rows[0][1]:
                part, kind, rest = self.parse(rest)
                self.need(kind == taken)
                parts.append(part)
            return ("do", word[1:], tuple(parts)), rows[0][2], rest
        if word.startswith("@"):
            self.need(word[1:] in self.cells)
            return ("cell", word[1:]), self.cells[word[1:]], rest
        if "." in word:
            self.need(word.count(".") == 1)
            kind, raw = word.split(".")
            self.need(raw in dict(self.side[0]).get(kind, ()))
            return ("raw", kind, raw), kind, rest
        self.need(word in self.names)
        return ("name", word), self.names[word], rest


def read(side, faces, text, is_part):
    """The program that a text shows, or the index of the line at which it is bad."""
    lines = text.split("\n")
    rows = [(at, line.split(" ")) for at, line in enumerate(lines)]
    rows = [(at, [word for word in words if word]) for at, words in rows if any(words)]
    try:
        return Reader(side, faces, [words for _, words in rows], is_part).program()
    except Bad as error:
        return ([at for at, _ in rows] + [len(lines)])[error.args[0]]
