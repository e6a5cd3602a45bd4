"""Runs ALONE: part and partner are written on one SIDE."""

from besidealone.acts import Clock
from besidealone.ready import Program
from besidealone.runs import Run
from besidealone.tables import faces


class Joint:
    """What lies between a part and a partner of its own SIDE: nothing."""

    def __init__(self):
        self.is_kept = True
        self.is_barred = False
        self.is_stopping = False
        self.is_tabled = False
        self.refused = ""

    def argument(self, face, raw):
        """What an export gets for a RAW."""
        return raw

    def answer(self, face, raw):
        """What the partner gets for the RAW that an export answers."""
        return raw

    def asks_for(self, face, raw):
        """What an import gets for a RAW."""
        return raw

    def comes(self, face, kept):
        """What a call of an import gives for what its body does."""
        return ("reply" if kept[0] == "reply" else "failed", kept[1])

    def out_word(self, word):
        """The WORD by which the partner's call FAILS if the part's body does so by this one."""
        return word


def run_alone(left, table, part, partner, most):
    """How a run ALONE ends within so many STEPS, and its CROSSINGS."""
    exports, imports = faces(table)
    run = Run(Program(left, exports, part), Program(left, imports, partner), exports, table[2][4], Joint(), Clock(most))
    run.go()
    return (run.end, tuple(run.log))
