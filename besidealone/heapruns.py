"""Runs BESIDE on HEAPS: what becomes of counts and HANDLES in a run, with a BOOK and a COLLECTOR."""

from besidealone.acts import NO_THING, Clock
from besidealone.beside import Seam
from besidealone.forms import is_ascending, is_integer, is_row
from besidealone.glue import ahead_of_main
from besidealone.ready import Program
from besidealone.runs import Receipts, Run, Things
from besidealone.stores import Store
from besidealone.tables import faces, right_faces, with_modes

EMPTY = ((), (), (), ())
WRONG = ("wrong",)


def is_collector(thing):
    """Whether any value is a COLLECTOR."""
    if not isinstance(thing, tuple) or not all([is_row(2, row) for row in thing]):
        return False
    if not all([is_integer(number) and number >= 0 for row in thing for number in row]):
        return False
    return is_ascending([row[0] for row in thing])


class Events:
    """The EVENTS of a run, up to the one that goes WRONG."""

    def __init__(self, book):
        self.store = Store(book, EMPTY)
        self.row = []
        self.is_wrong = False

    def come(self, event):
        """Has an EVENT come, unless one has gone WRONG."""
        if not self.is_wrong:
            self.row.append(event)
            self.is_wrong = self.store.come(event) != ""


class CountedThings(Things):
    """The things of the part, whose references are counted."""

    def __init__(self, events):
        super().__init__()
        self.events = events

    def make(self, kind, raw):
        """Makes a thing with a content; returns its number."""
        self.events.come(("new",))
        return super().make(kind, raw)

    def took(self, thing, elder):
        """Where a variable or a cell has a thing now in the place of an elder one."""
        self.events.come(("copy", thing))
        return self.lost(elder)

    def lost(self, elder):
        """Where a variable doesn't have an elder thing any more."""
        if elder != NO_THING:
            self.events.come(("drop", elder))
        return WRONG if self.events.is_wrong else None


class CollectedReceipts(Receipts):
    """The things that have come to the partner, with the HANDLES that the HEAPS give."""

    def __init__(self, events):
        super().__init__(False)
        self.events = events

    def take(self, thing):
        """Has a thing come; returns its RECEIPT."""
        self.events.come(("out", thing))
        self.things.append(thing)
        self.handles.append(self.events.store.given)
        return len(self.things) - 1


class HeapRun(Run):
    """A run whose things are counted, and whose HANDLES are collected."""

    def __init__(self, part, partner, rows, inner, joint, clock, book):
        super().__init__(part, partner, rows, inner, joint, clock)
        self.events = Events(book)
        self.things = CountedThings(self.events)
        self.receipts = CollectedReceipts(self.events)
        main = self.frames[0]
        main.things = self.receipts
        # When the collector is still to come, and how many STEPS the run may have in all.
        self.collects = []
        self.most = 0

    def collect_at(self, collector, begun, most):
        """Has the collector come, in a run of which so many STEPS are done already."""
        self.collects = [row for row in collector if row[0] >= begun][::-1]
        self.most = most
        self.wind(begun)

    def wind(self, begun):
        """Lets the run go on up to the STEP ahead of which the collector comes, or up to its end."""
        stop = self.most
        if self.collects:
            stop = min(stop, self.collects[-1][0])
        self.clock.left = stop - begun

    def end_of_steps(self):
        """How the run ends where no STEP is left, "" if the collector has come."""
        if self.collects == [] or self.collects[-1][0] >= self.most:
            return "on"
        step, shift = self.collects.pop()
        # The collector looks after the partner's code alone.
        if len(self.frames) in (1, 3):
            self.collect(shift)
        self.wind(step)
        return "" if self.goes_on() else "wrong"

    def goes_on(self):
        """Whether no EVENT has gone WRONG; otherwise the run ends."""
        if self.events.is_wrong:
            self.end = "wrong"
        return not self.events.is_wrong

    def collect(self, shift):
        """Has all HANDLES die that the partner doesn't have, and moves the others."""
        values = list(self.partner_cells)
        for frame in self.frames[0::2]:
            values.extend(frame.held)
        had = {self.receipts.handles[value]: True for value in values if is_integer(value)}
        alive = list(self.events.store.addresses)
        for handle in alive:
            if handle not in had:
                self.events.come(("die", handle))
        left = [handle for handle in alive if handle in had]
        if left:
            self.events.come(("move", tuple([shift + at for at in range(len(left))])))

    def drop_all(self, frame):
        """Has the variables of a body that ends have no things any more."""
        for value in frame.held:
            if is_integer(value):
                self.events.come(("drop", value))

    def call_export(self, face, value):
        """Has the partner call an export."""
        is_barred = len(self.frames) == 3 and self.joint.is_barred
        if self.exports[face][0] == "thing" and not is_barred:
            self.events.come(("home", self.receipts.handles[value]))
        else:
            self.events.come(("cross",))
        if self.goes_on():
            super().call_export(face, value)

    def end_export(self, value):
        """Has a body of the part answer."""
        frame = self.frames[-1]
        if self.exports[self.faces[-1]][1] != "thing":
            self.events.come(("cross",))
        super().end_export(value)
        self.drop_all(frame)
        self.goes_on()

    def fail_export(self, word):
        """Has a body of the part FAIL."""
        if not self.joint.is_stopping:
            self.events.come(("cross",))
            self.drop_all(self.frames[-1])
        if self.goes_on():
            super().fail_export(word)

    def call_import(self, face, raw):
        """Has the part call an import."""
        if len(self.frames) != 4 and not self.joint.is_tabled:
            self.events.come(("cross",))
        if self.goes_on():
            super().call_import(face, raw)

    def end_import(self, kept):
        """Has a body of an import answer, or FAIL."""
        if kept[0] == "reply" or not self.joint.is_stopping:
            self.events.come(("cross",))
        if self.goes_on():
            super().end_import(kept)


def run_on_heaps(left, right, table, part, partner, book, collector, most):
    """How a run on HEAPS ends within so many STEPS, and the row of its EVENTS."""
    clock = Clock(most)
    exports = faces(table)[0]
    there = Program(right, right_faces(table)[1], partner)
    end, kept = ahead_of_main(table, there, clock)
    if end != "":
        return (end, ())
    seam = Seam(left, right, with_modes(table, table[3][:3] + (book[0],)), kept)
    run = HeapRun(Program(left, exports, part), there, exports, table[2][4], seam, clock, book)
    run.collect_at(collector, most - clock.left, most)
    run.go()
    return (run.end, tuple(run.events.row))
