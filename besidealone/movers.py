"""A PART as a partner may lead it on, from what waits to what it does next.

Things are told by their contents (kind, raw). Where it matters who made them a mark stands behind: 1 for main's
call that is under way, 2 for the INNER call that is, 0 for any other one. What a PART does next is an outcome:
("answer", value, cells, face), ("fails", word, cells), ("ask", import, raw, place, cells), or ("ever",).
A place, where a body waits, is a tuple (face, at, held).
"""

from besidealone.acts import EVER, NO_THING, Clock, Frame, advance, begun, catch, give
from besidealone.errors import TooMany
from besidealone.ready import Program

# The most STEPS between two CROSSINGS, and the most of what is counted.
MOST = 4000


class Contents:
    """Things that are told by their contents, with the mark of the call that makes them."""

    def __init__(self, sign):
        self.sign = sign

    def make(self, kind, raw):
        """A thing with this content."""
        return (kind, raw) + self.sign

    def content(self, thing):
        """The content of a thing."""
        return thing[:2]

    def took(self, thing, elder):
        """Where a variable or a cell has a thing now in the place of an elder one: this counts for nothing."""

    def lost(self, elder):
        """Where a variable doesn't have an elder thing any more: this counts for nothing."""


class Mover:
    """A PART, with all that is known of what it does."""

    def __init__(self, left, exports, part, inner, is_marked):
        self.program = Program(left, exports, part)
        self.inner = inner
        self.is_marked = is_marked
        self.known = {}

    def first_state(self):
        """The state that the PART has at first."""
        return tuple(self.program.first)

    def import_at(self, place):
        """The import for which a body waits at a place."""
        return self.program.bodies[place[0]].called[place[1]]

    def begin(self, face, given, cells, is_inner):
        """The outcome of a call of an export; a thing is given by its content."""
        asked = (face, given, cells, is_inner)
        if asked not in self.known:
            if self.is_marked:
                given = given if isinstance(given, str) else given[:2] + (0,)
                cells = cells if is_inner else tuple([marked(value) for value in cells])
            frame = begun(self.program.bodies[face], given, list(cells), self.maker(is_inner))
            self.known[asked] = self.lead(face, frame, is_inner)
        return self.known[asked]

    def resume(self, place, cells, got):
        """The outcome behind an import's call, which gives ("reply", raw) or ("failed", word)."""
        asked = (place, cells, got)
        if asked not in self.known:
            self.known[asked] = self.resumed(place, cells, got)
        return self.known[asked]

    def resumed(self, place, cells, got):
        """The same, worked out."""
        frame = self.frame_behind(place, cells, got, self.maker(False))
        if frame is None:
            return ("fails", got[1], cells)
        return self.lead(place[0], frame, False)

    def frame_behind(self, place, cells, got, things):
        """The body that waits at a place behind an import's call, which gives this; None if it FAILS."""
        face, at, held = place
        frame = Frame(self.program.bodies[face], list(cells), things)
        frame.at = at
        frame.held = list(held)
        if got[0] == "reply":
            give(frame, got[1])
        elif not catch(frame, got[1]):
            return None
        return frame

    def maker(self, is_inner):
        """What makes things in a call."""
        if not self.is_marked:
            return Contents(())
        return Contents((2,) if is_inner else (1,))

    def lead(self, face, frame, is_inner):
        """The outcome of a body that goes on."""
        begin = (frame.at, list(frame.held), list(frame.cells))
        event = self.step(frame, is_inner, Clock(MOST))
        if event[0] == "on":
            frame.at, frame.held, frame.cells = begin
            frame.been = {}
            if not self.comes_round(frame, is_inner):
                raise TooMany(MOST)
            return EVER
        if event[0] in ("end", "ever"):
            return EVER
        cells = tuple(frame.cells)
        if event[0] == "call":
            return ("ask", event[1], event[2], (face, frame.at, tuple(frame.held)), cells)
        if is_inner and self.is_marked:
            cells = tuple([unmarked(value) for value in cells])
        if event[0] == "answer":
            return ("answer", event[1], cells, face)
        return ("fails", event[1], cells)

    def step(self, frame, is_inner, clock):
        """What a body does next; the calls of an INNER one FAIL at once."""
        event = advance(frame, clock)
        while is_inner and event[0] == "call":
            if not catch(frame, self.inner):
                return ("fails", self.inner)
            event = advance(frame, clock)
        return event

    def comes_round(self, frame, is_inner):
        """Whether a body that goes on for MOST STEPS comes back to where it has been."""
        been = {}
        for _ in range(MOST + 1):
            now = (frame.at, tuple(frame.held), tuple(frame.cells))
            if now in been:
                return True
            been[now] = True
            self.step(frame, is_inner, Clock(1))
        return False


def marked(value):
    """What a cell has, a thing with the mark of any call."""
    return value if isinstance(value, str) or value == NO_THING else value[:2] + (0,)


def unmarked(value):
    """What a cell has behind an INNER call: what this one made is a thing of any call."""
    return value[:2] + (0,) if not isinstance(value, str) and value[2:] == (2,) else value


def state_of(cells):
    """The state of a PART between calls of main whose cells have this."""
    return tuple([value if isinstance(value, str) else value[:2] for value in cells])
