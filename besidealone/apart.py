"""PARTNERS that REMEMBER and part two PARTS for which a Walk has found that there is no PAPER.

which tells the PART, 0 or 1, with which such a PARTNER says yes. Where both are given couples of ALIKE values it sends
those of the other one, so that this one does just what the Walk tells.
"""

from heapq import heappop, heappush

from besidealone.endless import Endings
from besidealone.errors import TooMany
from besidealone.scripts import played
from besidealone.sights import sign_of
from besidealone.walks import Tokens, Walk

# About how many STEPS a partner takes for a move.
OWN = 15
# The most ways by which both PARTS come apart that are passed by as one of them goes on without an end.
ENOUGH = 1000


def item_of(hand, outcome):
    """What the partner gets by an outcome."""
    if outcome[0] == "answer":
        return ("answer", hand.answer_got(outcome[3], outcome[1]))
    if outcome[0] == "ask":
        return ("ask", outcome[1], hand.asking_got(outcome[1], outcome[2]))
    return ("failed", hand.fail_got(outcome[1]))


class Player:
    """A PART that is led along moves, with the row of what the partner does and gets."""

    def __init__(self, hand, sight, mover):
        self.hand = hand
        self.sight = sight
        self.mover = mover
        self.row = []
        # Where the PART waits, () if it doesn't, and what its cells have.
        self.place = ()
        self.state = mover.first_state()

    def move(self, move):
        """Has the partner make a move."""
        if move[0] == "call":
            self.row.append(("call", move[1], self.hand.to_send(move[1], move[2])))
            outcome = self.mover.begin(move[1], move[2], self.state, self.place != ())
            if self.place == ():
                self.follow_on(outcome)
            else:
                self.follow_inner(outcome)
        else:
            self.row.append(self.hand.deed(self.mover.import_at(self.place), move[1]))
            self.follow_on(self.mover.resume(self.place, self.state, move[1]))

    def follow_on(self, outcome):
        """Goes on with what the PART does in main's call."""
        self.row.append(item_of(self.hand, outcome))
        if outcome[0] == "ask":
            self.place, self.state = outcome[3:]
        else:
            self.place, self.state = (), outcome[2]

    def follow_inner(self, outcome):
        """Goes on with what the PART does in an INNER call."""
        self.row.append(item_of(self.hand, outcome))
        self.state = outcome[2]
        if outcome[0] == "fails" and not self.sight.sees_fails:
            # Nobody catches it, so that the import FAILS as well.
            self.row.append(("fails", self.hand.fail_got(outcome[1])))
            self.follow_on(self.mover.resume(self.place, self.state, ("failed", self.sight.back[outcome[1]])))


class Finder(Walk):
    """Goes through all rows of moves, the shortest ones first, until a PARTNER that plays one parts both PARTS."""

    def __init__(self, hand, walk, trial):
        self.hand = hand
        self.trial = trial
        # The moves that have led a PART back to main.
        self.back = []
        self.passed = 0
        movers = walk.movers
        self.endings = [Endings(mover) for mover in movers]
        first = (movers[0].first_state(), movers[1].first_state())
        super().__init__(walk.sight, movers, Tokens((), False), (first,), False)

    def look_through(self):
        """Goes through them."""
        try:
            self.lead_all()
        except TooMany:
            # What is left is more than what is looked at.
            return

    def lead_all(self):
        """Leads both PARTS on, row by row, until nothing has to be looked for any more."""
        at = 0
        while at < len(self.rows) and self.lead_on(at):
            at += 1

    def go_apart(self, places, outcomes):
        """What follows where not the same is SEEN: whether more has to be looked for."""
        for which in (0, 1):
            if self.is_endless(1 - which):
                self.passed += 1
            elif self.is_led_back(which, places[which], outcomes[which]):
                if self.trial.is_done(self.partner_for(which)):
                    return False
        return self.passed < ENOUGH

    def is_led_back(self, which, place, outcome):
        """Whether a PART comes back to main behind an outcome."""
        single = self.singles[which]
        if not single.comes_back(place, outcome, []):
            return False
        # What leads back has not to be looked through again: so another one begins anew.
        self.singles[which] = self.new_singles()[which]
        self.back = single.way_back()
        return True

    def is_endless(self, which):
        """Whether a PART goes on without an end behind the last move."""
        return self.endings[which].is_endless(self.asked_of(which)[-1])

    def asked_of(self, which):
        """What Endings are asked for of what a PART does behind the last move."""
        at, move = self.now
        row = self.rows[at]
        if row[0] == "main":
            return [(move[1], move[2][which], row[1][which], False)]
        place, cells = row[1 + which]
        if move[0] == "got":
            return [(place, cells, move[1][which])]
        asked = [(move[1], move[2][which], cells, True)]
        outcome = self.movers[which].begin(move[1], move[2][which], cells, True)
        if sign_of(self.sight, outcome, True)[0] == "unseen":
            # Its import FAILS, too.
            asked.append((place, outcome[2], ("failed", self.sight.back[outcome[1]])))
        return asked

    def partner_for(self, which):
        """The PARTNER that makes the moves, looks at what comes apart, and leads the one PART back to main."""
        player = Player(self.hand, self.sight, self.movers[which])
        for move in self.way_apart():
            player.move(move[:-1] + (move[-1][1 - which],))
        at = len(player.row) - 1
        for move in self.back:
            player.move(move)
        return played(self.hand.side, self.hand.faces, player.row, at, {})


class Saver(Finder):
    """Goes through the rows by the STEPS that they take, those with the fewest first."""

    def __init__(self, hand, walk, trial):
        # For each row that is led on the STEPS up to there, and its index.
        self.costs = {}
        self.places = {}
        self.queue = []
        super().__init__(hand, walk, trial)

    def add_row(self, row):
        """Has a couple of states, or of what both PARTS do, be led on, or be reached by fewer STEPS."""
        cost = 0 if self.now[0] < 0 else self.costs[self.rows[self.now[0]]] + self.steps_of_move()
        if row in self.costs and self.costs[row] <= cost:
            return
        super().add_row(row)
        self.costs[row] = cost
        place = self.places.setdefault(row, len(self.rows) - 1)
        self.moves[place] = self.now
        heappush(self.queue, (cost, place))

    def steps_of_move(self):
        """The STEPS that the last move takes with the PART with which it takes more, and those of the partner."""
        steps = [sum([self.endings[which].steps_for(asked) for asked in self.asked_of(which)]) for which in (0, 1)]
        return max(steps[0], steps[1]) + OWN

    def lead_all(self):
        """Leads both PARTS on, row by row, until nothing has to be looked for any more."""
        is_on = True
        while self.queue and is_on:
            place = heappop(self.queue)[1]
            is_on = self.lead_on(place)
