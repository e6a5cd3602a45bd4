"""At which line texts are bad: the first one with which no good text begins."""

import itertools
import re

from tests import reference

POWERS = ("again", "catch", "keep", "same")
MODES = [("crosses", "stops"), ("live", "tabled"), ("let", "barred"), ("kept", "fresh")]


def first_bad(text, begins_good, is_whole):
    """The first line that is bad, the number of lines if something lacks, None if all is good."""
    lines = text.split("\n")
    for at in range(len(lines)):
        if not reference.holds(begins_good, [line.split() for line in lines[:at + 1] if line.split()]):
            return at
    return None if is_whole([line.split() for line in lines if line.split()]) else len(lines)


def side_begins(rows):
    heads = "".join({"kind": "k", "operation": "o", "powers": "p"}[row[0]] for row in rows)
    assert re.fullmatch("k*o*p?", heads)
    kinds = {row[1]: row[2:] for row in rows if row[0] == "kind"}
    assert len(kinds) == heads.count("k") and "thing" not in kinds
    for kind, raws in kinds.items():
        reference.names_ok((kind,))
        reference.names_ok(tuple(raws))
        assert raws
    assert kinds.get("truth", ["no", "yes"]) == ["no", "yes"]
    assert "truth" in kinds and "word" in kinds or heads.strip("k") == ""
    for row in rows:
        if row[0] == "operation":
            match = re.fullmatch(r"operation (\S+) (.*?) -> (\S+) : (.*)", " ".join(row))
            name, takes, gives, results = match.group(1), match.group(2).split(), match.group(3), match.group(4).split()
            assert reference.name_ok(name) and 1 <= len(takes) <= 2 and set(results) <= set(kinds[gives])
            assert len(results) == len(list(itertools.product(*[kinds[kind] for kind in takes])))
        if row[0] == "powers":
            assert row[1:] and set(row[1:]) <= set(POWERS) and row[1:] == sorted(set(row[1:]))
    names = [row[1] for row in rows if row[0] == "operation"]
    assert len(names) == len(set(names))


def side_whole(rows):
    return {"truth", "word"} <= {row[1] for row in rows if row[0] == "kind"}


def side_line(text):
    return first_bad(text, side_begins, side_whole)


WORD_LINES = {"out": "W", "into": "X", "refused": "Y"}
GRAMMAR = "(Eio)*(E|Ei)?|(Eio)+(Ioi)*(I|Io|W|WX|WXY|WXYM)?"


def sign(row):
    if row[0] == "words":
        return WORD_LINES[row[1]]
    return {"export": "E", "import": "I", "into": "i", "out": "o", "modes": "M"}[row[0]]


def table_begins(left, right):
    """A check of how the lines of a TABLE between two SIDES begin."""
    sides = {"out": (left, right, False), "into": (right, left, True)}
    mine, theirs = list(dict(left[0])["word"]), list(dict(right[0])["word"])
    lots = {"out": [theirs] * len(mine), "into": [mine] * len(theirs), "refused": [mine, theirs, mine]}

    def begins(rows):
        assert re.fullmatch(GRAMMAR, "".join(sign(row) for row in rows))
        names, head = [], ""
        for row in rows:
            if row[0] in ("export", "import"):
                head = row[0]
                assert len(row) == 2 and reference.name_ok(row[1]) and row[1] not in names
                names.append(row[1])
            elif row[0] in sides:
                begin, end, refusing = sides[row[0]]
                raws = tuple("" if word == "-" else word for word in row[3:])
                made = ("thing",) if row[1:] == ["thing"] else (row[1], row[2], raws)
                reference.check_way(begin, end, refusing, head == "export", made)
            elif row[0] == "words":
                assert len(row) == 2 + len(lots[row[1]])
                assert all(word in lot for word, lot in zip(row[2:], lots[row[1]]))
            else:
                assert len(row) == 5 and all(mode in both for mode, both in zip(row[1:], MODES))

    return begins


def table_line(left, right, text):
    return first_bad(text, table_begins(left, right), lambda rows: rows[-1:] and rows[-1][0] == "modes")


def changed_texts(text, words):
    """The text with lines left out, twice, exchanged, cut off, with words left out, twice, exchanged or added."""
    lines = text.split("\n")
    for at, line in enumerate(lines):
        ahead, behind = lines[:at], lines[at + 1:]
        parts = line.split(" ")
        for new in [[], [line, line], [line, "", "  "], ["", line], ["junk"], [line[:-1]], [line.upper()]]:
            yield "\n".join(ahead + new + behind)
        yield "\n".join(ahead + [line])
        yield "\n".join(behind)
        for place in range(len(lines)):
            yield "\n".join(ahead + [lines[place]] + behind)
            moved = ahead + behind
            yield "\n".join(moved[:place] + [line] + moved[place:])
        for place, part in enumerate(parts):
            for new in [[], [part, part], [part + "z"], [""], *[[word] for word in words]]:
                yield "\n".join(ahead + [" ".join(parts[:place] + new + parts[place + 1:])] + behind)
            yield "\n".join(ahead + [" ".join(parts[:place] + parts[place:][::-1])] + behind)
        for word in words:
            yield "\n".join(ahead + [line + " " + word] + behind)
