"""What a partner has to do so that a PART gets left RAWS and WORDS, and what it gets for those of the PART.

What a call of an import gives to the PART is a got: ("reply", raw) or ("failed", word), with left RAWS and WORDS.
What the import's body does for it is a deed: ("reply", raw) or ("fails", word), on the SIDE of the partner.
"""

from besidealone.glue import came
from besidealone.likeness import likeness, lot_with
from besidealone.sides import raws_of
from besidealone.tables import export_of, faces, import_of, into_word, led, out_word, right_faces


class NearHand:
    """The hand of a partner ALONE: nothing lies between it and the PART."""

    def __init__(self, left, table):
        self.side = left
        self.faces = faces(table)
        # Whether what the bodies of imports do is asked ahead of main.
        self.asks_ahead = False

    def to_send(self, face, raw):
        """The RAW with which it calls an export so that the PART gets one that is ALIKE to this one."""
        return raw

    def arriving(self, face, raw):
        """The RAW that the PART gets when an export is called with this one."""
        return raw

    def deed(self, face, got):
        """The deed by which the PART gets what is ALIKE to this, () if there is none."""
        return ("reply" if got[0] == "reply" else "fails", got[1])

    def got_by(self, face, deed):
        """The got of the PART by a deed."""
        return ("reply" if deed[0] == "reply" else "failed", deed[1])

    def answer_got(self, face, raw):
        """What it gets for a RAW that an export answers."""
        return raw

    def asking_got(self, face, raw):
        """What it gets for a RAW with which an import is asked."""
        return raw

    def fail_got(self, word):
        """What it gets for a WORD by which a body of the PART FAILS."""
        return word


class FarHand:
    """The hand of a partner BESIDE: a TABLE lies between it and the PART."""

    def __init__(self, left, right, table):
        self.left = left
        self.side = right
        self.table = table
        self.faces = right_faces(table)
        self.asks_ahead = table[3][1] == "tabled"
        self.lots = dict(likeness(left))

    def to_send(self, face, raw):
        """The RAW with which it calls an export so that the PART gets one that is ALIKE to this one."""
        return self.leading(export_of(self.table, face)[1], raw)

    def leading(self, into, raw):
        """A right RAW that a WAY leads to this left one, or else to one that is ALIKE to it, or else "" ."""
        found = [own for own in raws_of(self.side, into[0]) if led(self.side, into, own) == raw]
        lot = lot_with(self.lots[into[1]], raw)
        alike = [own for own in raws_of(self.side, into[0]) if led(self.side, into, own) in lot]
        return (found + alike + [""])[0]

    def arriving(self, face, raw):
        """The RAW that the PART gets when an export is called with this one."""
        return led(self.side, export_of(self.table, face)[1], raw)

    def deed(self, face, got):
        """The deed by which the PART gets what is ALIKE to this, () if there is none."""
        into = import_of(self.table, face)[2]
        if got[0] == "reply":
            raw = self.leading(into, got[1])
            return () if raw == "" else ("reply", raw)
        deeds = self.failing(into)
        lot = lot_with(self.lots["word"], got[1])
        found = [deed for deed, word in deeds if word == got[1]] + [deed for deed, word in deeds if word in lot]
        return (found + [()])[0]

    def failing(self, into):
        """All deeds by which a call of an import with this WAY FAILS, each with the left WORD."""
        found = []
        if self.table[3][0] == "crosses":
            words = raws_of(self.side, "word")
            found = [(("fails", word), into_word(self.side, self.table, word)) for word in words]
        refused = [raw for raw in raws_of(self.side, into[0]) if led(self.side, into, raw) == ""]
        return found + [(("reply", raw), self.table[2][2]) for raw in refused]

    def got_by(self, face, deed):
        """The got of the PART by a deed."""
        return came(self.left, self.side, self.table, face, deed)

    def answer_got(self, face, raw):
        """What it gets for a RAW that an export answers."""
        return led(self.left, export_of(self.table, face)[2], raw)

    def asking_got(self, face, raw):
        """What it gets for a RAW with which an import is asked."""
        return led(self.left, import_of(self.table, face)[1], raw)

    def fail_got(self, word):
        """What it gets for a WORD by which a body of the PART FAILS."""
        return out_word(self.left, self.table, word)


def hand_at(left, right, table, where):
    """The hand of a partner at a WHERE."""
    return NearHand(left, table) if where == "alone" else FarHand(left, right, table)
