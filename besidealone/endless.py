"""Whether a PART goes on without an end though nothing in its run tells so.

A run tells that a body goes on for ever where a while asks as it asked before, no call lying between: so it doesn't
tell where an INNER body calls imports ever again, which FAIL, nor where a body makes things ever again.
"""

from besidealone.acts import EVER, ON, Clock, advance, begun, catch
from besidealone.movers import MOST, Contents


class Numbered(Contents):
    """Things no two of which are one."""

    def __init__(self):
        super().__init__(())
        self.many = 0

    def make(self, kind, raw):
        """A thing with this content."""
        self.many += 1
        return (kind, raw, self.many)


class Endings:
    """A PART, with all that is known of how many STEPS it takes up to what it does next.

    What it is asked for is (face, given, cells, is_inner), for the call of an export, or (place, cells, got), for what
    comes behind an import's call.
    """

    def __init__(self, mover):
        self.mover = mover
        self.known = {}

    def is_endless(self, asked):
        """Whether a PART, of which its Mover tells that all ends, goes on without an end."""
        outcome = self.mover.begin(*asked) if len(asked) == 4 else self.mover.resume(*asked)
        return outcome == EVER and self.steps_for(asked) > MOST

    def steps_for(self, asked):
        """How many STEPS a PART takes; one more than a Mover looks at if there are more."""
        if asked not in self.known:
            if len(asked) == 4:
                face, given, cells, is_inner = asked
                frame = begun(self.mover.program.bodies[face], given, list(cells), Numbered())
                self.known[asked] = self.steps_of(frame, is_inner)
            else:
                place, cells, got = asked
                frame = self.mover.frame_behind(place, cells, got, Numbered())
                self.known[asked] = 0 if frame is None else self.steps_of(frame, False)
        return self.known[asked]

    def steps_of(self, frame, is_inner):
        """How many STEPS a body takes; the calls of an INNER one FAIL at once."""
        clock = Clock(MOST)
        event = advance(frame, clock)
        while is_inner and event[0] == "call" and catch(frame, self.mover.inner):
            frame.been = {}
            event = advance(frame, clock)
        return MOST + 1 if event == ON else MOST - clock.left
