"""Runs of a PART with its PARTNER, whatever lies between both.

What lies between both is told by a joint, an object with the methods of Joint in alone.py: it leads over what
crosses.
"""

from besidealone.acts import advance, begun, catch, give


class Things:
    """The things that the part has made, counted from 0, with their contents."""

    def __init__(self):
        self.contents = []

    def make(self, kind, raw):
        """Makes a thing with a content; returns its number."""
        self.contents.append((kind, raw))
        return len(self.contents) - 1

    def content(self, thing):
        """The content of a thing."""
        return self.contents[thing]

    def are_same(self, one, other):
        """Whether two things are one."""
        return one == other

    def took(self, thing, elder):
        """Where a variable or a cell has a thing now in the place of an elder one; here this counts for nothing."""

    def lost(self, elder):
        """Where a variable doesn't have an elder thing any more; here this counts for nothing."""


class Receipts:
    """The things that have come to the partner, counted from 0, each with its HANDLE."""

    def __init__(self, is_kept):
        self.is_kept = is_kept
        self.things = []
        self.handles = []
        self.of_things = {}

    def take(self, thing):
        """Has a thing come; returns its RECEIPT."""
        receipt = len(self.things)
        self.things.append(thing)
        # With kept HANDLES there are as many as there are things that have come.
        handle = self.of_things.setdefault(thing, len(self.of_things)) if self.is_kept else receipt
        self.handles.append(handle)
        return receipt

    def are_same(self, one, other):
        """Whether the HANDLES of two RECEIPTS are one."""
        return self.handles[one] == self.handles[other]

    def took(self, receipt, elder):
        """Where a variable or a cell has a RECEIPT now in the place of an elder one: this counts for nothing."""


class Run:
    """A run: its frames are main, a body of the part, one of an import, and an INNER one of the part."""

    def __init__(self, part, partner, rows, inner, joint, clock):
        self.part = part
        self.exports = {name: (takes, answers) for name, takes, answers in rows}
        self.partner = partner
        self.inner = inner
        self.joint = joint
        self.clock = clock
        self.things = Things()
        self.receipts = Receipts(joint.is_kept)
        self.part_cells = list(part.first)
        self.partner_cells = list(partner.first)
        self.frames = [begun(partner.main, "", self.partner_cells, self.receipts)]
        # The face of each frame; main has none.
        self.faces = [""]
        self.log = []
        self.seen = []
        self.end = ""

    def go(self):
        """Runs to the end."""
        while self.end == "":
            event = advance(self.frames[-1], self.clock)
            if event[0] == "on":
                self.end = self.end_of_steps()
            elif event[0] in ("ever", "wrong"):
                self.end = event[0]
            elif event[0] == "say":
                self.end = event[1]
            elif event[0] == "end":
                self.end = "end" if len(self.frames) == 1 else "ever"
            elif len(self.frames) in (1, 3):
                self.go_on_there(event)
            else:
                self.go_on_here(event)

    def end_of_steps(self):
        """How the run ends where no STEP is left, "" if there are some again."""
        return "on"

    def go_on_there(self, event):
        """Goes on where a body of the partner calls, answers or FAILS."""
        if event[0] == "call":
            self.call_export(event[1], event[2])
        elif event[0] == "answer":
            self.end_import(("reply", event[1]))
        elif len(self.frames) == 1:
            self.end = "fails"
        else:
            self.end_import(("fails", event[1]))

    def go_on_here(self, event):
        """Goes on where a body of the part calls, answers or FAILS."""
        if event[0] == "call":
            self.call_import(event[1], event[2])
        elif event[0] == "answer":
            self.end_export(event[1])
        else:
            self.fail_export(event[1])

    def forget(self):
        """Has the body that is run, and calls, forget what its whiles asked."""
        frame = self.frames[-1]
        frame.been = {}

    def call_export(self, face, value):
        """Has the partner call an export."""
        self.forget()
        self.seen.append(("call", face, value))
        is_inner = len(self.frames) == 3
        if self.exports[face][0] == "thing":
            given, told = self.receipts.things[value], value
        else:
            given = told = self.joint.argument(face, value)
        if given == "" or (is_inner and self.joint.is_barred):
            self.fail_call(self.joint.refused)
            return
        self.log.append(("call", face, told, is_inner))
        self.begin(self.part.bodies[face], face, given, self.part_cells, self.things)

    def begin(self, body, face, given, cells, things):
        """Begins a body of a face."""
        self.frames.append(begun(body, given, cells, things))
        self.faces.append(face)

    def leave(self):
        """Ends the body that is run; returns its face."""
        self.frames.pop()
        return self.faces.pop()

    def end_export(self, value):
        """Has a body of the part answer."""
        face = self.leave()
        if self.exports[face][1] == "thing":
            receipt = self.receipts.take(value)
            self.log.append(("gave", receipt, value))
            self.seen.append(("gave", receipt, self.receipts.handles[receipt]))
            give(self.frames[-1], receipt)
        else:
            raw = self.joint.answer(face, value)
            self.log.append(("answer", value))
            self.seen.append(("answer", raw))
            give(self.frames[-1], raw)

    def fail_export(self, word):
        """Has a body of the part FAIL."""
        self.log.append(("fails", word))
        if self.joint.is_stopping:
            self.end = "stops"
            return
        self.leave()
        self.fail_call(self.joint.out_word(word))

    def fail_call(self, word):
        """Has a call of the partner FAIL."""
        self.seen.append(("failed", word))
        if catch(self.frames[-1], word):
            return
        if len(self.frames) == 1:
            self.end = "fails"
        else:
            self.end_import(("fails", word))

    def call_import(self, face, raw):
        """Has the part call an import."""
        self.forget()
        if len(self.frames) == 4:
            if not catch(self.frames[-1], self.inner):
                self.fail_export(self.inner)
            return
        self.log.append(("ask", face, raw))
        asked = self.joint.asks_for(face, raw)
        if self.joint.is_tabled:
            self.come(self.joint.comes(face, self.joint.kept[face][asked]))
        else:
            self.seen.append(("ask", face, asked))
            self.begin(self.partner.bodies[face], face, asked, self.partner_cells, self.receipts)

    def end_import(self, kept):
        """Has a body of an import answer, ("reply", raw), or FAIL, ("fails", word)."""
        face = self.leave()
        self.seen.append(kept)
        self.come(self.joint.comes(face, kept))

    def come(self, came):
        """Has the part's call of an import give what came."""
        if came[0] == "stops":
            self.end = "stops"
            return
        self.log.append(came)
        if came[0] == "reply":
            give(self.frames[-1], came[1])
        elif not catch(self.frames[-1], came[1]):
            self.fail_export(came[1])
