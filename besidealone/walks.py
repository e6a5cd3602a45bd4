"""Two PARTS led on beside one another by a partner that REMEMBERS.

A move of the partner is ("call", face, value) or ("got", got); of both PARTS at once it has couples of these.
"""

from besidealone.errors import TooMany
from besidealone.movers import MOST, state_of
from besidealone.sights import sign_of


class Tokens:
    """The couples of contents of things that the partner may have."""

    def __init__(self, couples, is_told):
        self.couples = list(couples)
        self.known = {couple: True for couple in couples}
        # Whether they are those of a PAPER that was told: then none is put to them.
        self.is_told = is_told

    def has_or_takes(self, one, other):
        """Whether the couple of the contents of these two things is there, or is now."""
        couple = (one[:2], other[:2])
        if couple in self.known:
            return True
        if self.is_told:
            return False
        self.known[couple] = True
        self.couples.append(couple)
        return True

    def of(self, which):
        """The contents with the one PART, 0, or the other one, 1."""
        return sorted({couple[which] for couple in self.couples})


def is_taken(sight, tokens, outcomes, is_inner):
    """Whether things that are answered with both PARTS are such that the PAPER may hold."""
    made_here = 2 if is_inner else 1
    if sight.tells_things and any([outcome[1][2] != made_here for outcome in outcomes]):
        return False
    return tokens.has_or_takes(outcomes[0][1], outcomes[1][1])


def path_of(moves, last):
    """The moves that lead to where a last one is made.

    A move is told with the index of where it is made, moves telling how one comes to each index; -1 is the begin.
    """
    found = []
    at, move = last
    while at >= 0:
        found.append(move)
        at, move = moves[at]
    return found[::-1]


class Single:
    """One PART alone, behind what was not SEEN the same."""

    def __init__(self, sight, mover, which):
        self.sight = sight
        self.mover = mover
        self.replies = {}
        for name in sight.replies:
            self.replies[name] = sorted({couple[which] for couple in sight.replies[name]})
        self.calls = {}
        for name in sight.calls:
            self.calls[name] = sorted({couple[which] for couple in sight.calls[name]})
        # Where it waits, what its cells have, and what things came on the way; how many of these were led on.
        self.waiting = []
        self.moves = []
        self.now = (-1, ())
        self.known = {}
        self.done = 0
        # How many there were ahead of what is being looked at.
        self.elder = 0

    def comes_back(self, place, outcome, contents):
        """Whether the PART comes back to main behind an outcome: of main's call, () for the place, or an INNER one."""
        self.elder = len(self.waiting)
        self.now = (-1, ())
        is_back = self.end_main(outcome, ()) if place == () else self.end_inner(place, outcome, ())
        while self.done < len(self.waiting) and not is_back:
            is_back = self.goes_back(self.waiting[self.done], contents)
            self.done += 1
        return is_back

    def goes_back(self, waiting, contents):
        """Whether one reply or INNER call leads the PART back to main; what it leads to else is looked at later."""
        place, cells, came = waiting
        for got in self.replies[self.mover.import_at(place)]:
            self.now = (self.done, ("got", got))
            if self.end_main(self.mover.resume(place, cells, got), came):
                return True
        if not self.sight.calls_again:
            return False
        for face, takes, answers in self.sight.faces[0]:
            given = sorted({content for content in contents + list(came)}) if takes == "thing" else self.calls[face]
            for value in given:
                self.now = (self.done, ("call", face, value))
                if self.end_inner(place, self.mover.begin(face, value, cells, True), came):
                    return True
        return False

    def end_main(self, outcome, came):
        """Whether the PART is back in main."""
        if outcome[0] == "ask":
            self.wait_at((outcome[3], outcome[4], came))
        return outcome[0] == "answer" or (outcome[0] == "fails" and self.sight.sees_fails)

    def end_inner(self, place, outcome, came):
        """Whether the PART is back in main behind an INNER call."""
        sign = sign_of(self.sight, outcome, True)
        if sign[0] == "unseen":
            got = ("failed", self.sight.back[outcome[1]])
            return self.end_main(self.mover.resume(place, outcome[2], got), came)
        if sign == ("thing",):
            came = tuple(sorted({content for content in list(came) + [outcome[1][:2]]}))
        if sign[0] != "ends":
            self.wait_at((place, outcome[2], came))
        return False

    def wait_at(self, waiting):
        """Has it looked at what a PART does that waits."""
        if waiting in self.known:
            return
        self.known[waiting] = True
        self.waiting.append(waiting)
        self.moves.append(self.now)
        if len(self.waiting) - self.elder > MOST:
            raise TooMany(MOST)

    def way_back(self):
        """The moves by which the PART has come back to main."""
        return path_of(self.moves, self.now)


class Walk:
    """Two PARTS led on beside one another from couples of states; told ones are those of a PAPER."""

    def __init__(self, sight, movers, tokens, states, is_told):
        self.sight = sight
        self.movers = movers
        self.tokens = tokens
        self.is_told = is_told
        self.states = {}
        # What is to be led on: couples of states, and couples of what both PARTS do while an import waits; for
        # each one how many tokens were handed over there, -1 if nothing was done there yet.
        self.rows = []
        self.moves = []
        self.now = (-1, ())
        self.done = []
        self.known = {}
        self.apart = {}
        self.singles = self.new_singles()
        for couple in states:
            self.add_state(couple)

    def new_singles(self):
        """Both PARTS, each one alone."""
        return [Single(self.sight, self.movers[which], which) for which in (0, 1)]

    def holds(self):
        """Whether the PAPER of these states and tokens, or the least one that begins with them, is one."""
        many = -1
        while many < len(self.tokens.couples):
            many = len(self.tokens.couples)
            at = 0
            while at < len(self.rows):
                if not self.lead_on(at):
                    return False
                at += 1
        # With tokens that came later there may be a way back to main where there was none.
        self.singles = self.new_singles()
        for places, outcomes in list(self.apart.values()):
            if not self.stays_away(places, outcomes):
                return False
        return True

    def add_state(self, couple):
        """Has a couple of states be one of the PAPER."""
        self.states[couple] = True
        self.add_row(("main", couple))

    def add_row(self, row):
        """Has a couple of states, or of what both PARTS do, be led on."""
        if row in self.known:
            return
        self.known[row] = True
        self.rows.append(row)
        self.moves.append(self.now)
        self.done.append(-1)
        if len(self.rows) > MOST:
            raise TooMany(MOST)

    def lead_on(self, at):
        """Leads both PARTS on by all that the partner may do at a row; whether the PAPER may hold."""
        row, done = self.rows[at], self.done[at]
        couples = self.tokens.couples[max(done, 0):]
        self.done[at] = done + len(couples) + (1 if done < 0 else 0)
        if row[0] == "main":
            return self.call_all(at, row[1], couples, done < 0, ())
        if done < 0 and not self.reply_all(at, row):
            return False
        if not self.sight.calls_again:
            return True
        return self.call_all(at, (row[1][1], row[2][1]), couples, done < 0, (row[1][0], row[2][0]))

    def call_all(self, at, cells, couples, is_new, places):
        """All calls of exports, INNER ones if the PARTS wait at places; whether the PAPER may hold."""
        for face, takes, answers in self.sight.faces[0]:
            given = couples if takes == "thing" else self.sight.calls[face] if is_new else []
            for values in given:
                self.now = (at, ("call", face, values))
                outcomes = [self.movers[which].begin(face, values[which], cells[which], places != ())
                            for which in (0, 1)]
                if not (self.end_main(outcomes) if places == () else self.end_inner(places, outcomes)):
                    return False
        return True

    def reply_all(self, at, row):
        """All that a call of an import may give; whether the PAPER may hold."""
        name = self.movers[0].import_at(row[1][0])
        for got in self.sight.replies[name]:
            self.now = (at, ("got", got))
            outcomes = [self.movers[which].resume(row[1 + which][0], row[1 + which][1], got[which])
                        for which in (0, 1)]
            if not self.end_main(outcomes):
                return False
        return True

    def end_main(self, outcomes):
        """What follows from outcomes of main's call; whether the PAPER may hold."""
        sign, other = [sign_of(self.sight, outcome, False) for outcome in outcomes]
        if sign != other:
            return self.go_apart(((), ()), outcomes)
        if sign[0] == "ask":
            self.add_row(("wait", outcomes[0][3:], outcomes[1][3:]))
        elif sign[0] != "ends":
            if sign == ("thing",) and not is_taken(self.sight, self.tokens, outcomes, False):
                return False
            return self.has_or_takes((state_of(outcomes[0][2]), state_of(outcomes[1][2])))
        return True

    def has_or_takes(self, couple):
        """Whether a couple of states is there, or is now."""
        if not self.is_told:
            self.add_state(couple)
        return couple in self.states

    def end_inner(self, places, outcomes):
        """What follows from outcomes of an INNER call; whether the PAPER may hold."""
        sign, other = [sign_of(self.sight, outcome, True) for outcome in outcomes]
        if sign != other:
            return self.go_apart(places, outcomes)
        if sign[0] == "unseen":
            return self.end_main([self.movers[which].resume(places[which], outcomes[which][2],
                                                            ("failed", self.sight.back[outcomes[which][1]]))
                                  for which in (0, 1)])
        if sign[0] != "ends":
            if sign == ("thing",) and not is_taken(self.sight, self.tokens, outcomes, True):
                return False
            self.add_row(("wait", (places[0], outcomes[0][2]), (places[1], outcomes[1][2])))
        return True

    def go_apart(self, places, outcomes):
        """What follows where not the same is SEEN; whether the PAPER may hold."""
        self.apart[(places, tuple(outcomes))] = (places, outcomes)
        return self.stays_away(places, outcomes)

    def stays_away(self, places, outcomes):
        """Whether neither PART comes back to main behind these outcomes."""
        return not any([self.singles[which].comes_back(places[which], outcomes[which], self.tokens.of(which))
                        for which in (0, 1)])

    def way_apart(self):
        """The moves that lead both PARTS to where they come apart."""
        return path_of(self.moves, self.now)
