"""Whether a PART goes on without an end though nothing in its run tells so.

A run tells that a body goes on for ever where a while asks as it asked before, no call lying between: so it doesn't
tell where an INNER body calls imports ever again, which FAIL, nor where a body makes things ever again.
"""

from besidealone.acts import EVER, ON, Clock, advance, begun, catch
from besidealone.movers import MOST, Contents


class Numbered(Contents):
    """Things no two of which are one."""

    def __init__(self):
        super().__init__(())
        self.many = 0

    def make(self, kind, raw):
        """A thing with this content."""
        self.many += 1
        return (kind, raw, self.many)


class Endings:
    """A PART, with all that is known of whether its run ends where its Mover tells that all ends."""

    def __init__(self, mover):
        self.mover = mover
        self.known = {}

    def is_endless_call(self, face, given, cells, is_inner):
        """Whether the call of an export goes on without an end."""
        asked = (face, given, cells, is_inner)
        if asked not in self.known:
            is_over = self.mover.begin(face, given, cells, is_inner) == EVER
            body = self.mover.program.bodies[face]
            self.known[asked] = is_over and self.goes_on(begun(body, given, list(cells), Numbered()), is_inner)
        return self.known[asked]

    def is_endless_behind(self, place, cells, got):
        """Whether a body goes on so behind an import's call that gives this."""
        asked = (place, cells, got)
        if asked not in self.known:
            is_over = self.mover.resume(place, cells, got) == EVER
            self.known[asked] = is_over and self.goes_on(self.mover.frame_behind(place, cells, got, Numbered()), False)
        return self.known[asked]

    def goes_on(self, frame, is_inner):
        """Whether a body goes on for more STEPS than a Mover looks at."""
        clock = Clock(MOST)
        event = advance(frame, clock)
        while is_inner and event[0] == "call" and catch(frame, self.mover.inner):
            frame.been = {}
            event = advance(frame, clock)
        return event == ON
