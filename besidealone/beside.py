"""Runs BESIDE: a TABLE lies between part and partner."""

from besidealone.acts import Clock
from besidealone.glue import ahead_of_main, came
from besidealone.ready import Program
from besidealone.runs import Run
from besidealone.sides import raws_of
from besidealone.tables import THING, faces, right_faces


class Seam:
    """What lies between a part and a partner of the other SIDE: a TABLE."""

    def __init__(self, left, right, table, kept):
        self.left = left
        self.right = right
        self.table = table
        self.is_stopping = table[3][0] == "stops"
        self.is_tabled = table[3][1] == "tabled"
        self.is_barred = table[3][2] == "barred"
        self.is_kept = table[3][3] == "kept"
        self.refused = table[2][3]
        # What was kept when tabled imports were asked ahead.
        self.kept = kept
        self.into = {name: leads(right, into) for name, into, out in table[0]}
        self.out = {name: leads(left, out) for name, into, out in table[0]}
        self.asking = {name: leads(left, out) for name, out, into in table[1]}
        self.out_words = dict(zip(raws_of(left, "word"), table[2][0]))

    def argument(self, face, raw):
        """The left RAW that an export gets for a right one, "" if it is REFUSED."""
        return self.into[face][raw]

    def answer(self, face, raw):
        """The right RAW that the partner gets for the left one that an export answers."""
        return self.out[face][raw]

    def asks_for(self, face, raw):
        """The right RAW that an import gets for a left one."""
        return self.asking[face][raw]

    def comes(self, face, kept):
        """What a call of an import gives for what its body does."""
        return came(self.left, self.right, self.table, face, kept)

    def out_word(self, word):
        """The WORD by which the partner's call FAILS if the part's body does so by this one."""
        return self.out_words[word]


def leads(side, way):
    """A dict from the RAWS where a WAY begins to what it leads to; a thing goes over as it is."""
    return {} if way == THING else dict(zip(raws_of(side, way[0]), way[2]))


def run_beside(left, right, table, part, partner, most):
    """How a run BESIDE ends within so many STEPS, its CROSSINGS, and what the partner does and gets."""
    clock = Clock(most)
    exports, imports = faces(table)
    there = Program(right, right_faces(table)[1], partner)
    end, kept = ahead_of_main(table, there, clock)
    if end != "":
        return (end, (), ())
    seam = Seam(left, right, table, kept)
    run = Run(Program(left, exports, part), there, exports, table[2][4], seam, clock)
    run.go()
    return (run.end, tuple(run.log), tuple(run.seen))
