"""PARTNERS that don't REMEMBER and part two PARTS without cells for which Choices have found no PAPER.

Their imports do what is picked by the CLASSES with which they are asked, and go on for ever elsewhere, if they may.
A pick is a tuple (got, call): what the PART gets with which the PARTNER says yes, which tells this one, 0 or 1, and
the INNER call ahead of it, a tuple (face, couple of values), by which the other PART gets something else; () if there
is none.
"""

from besidealone.acts import EVER
from besidealone.apart import ENOUGH, item_of
from besidealone.choices import ANY, LOTS, Choices
from besidealone.endless import Endings
from besidealone.errors import TooMany
from besidealone.grounds import FOR_EVER, GIVEN
from besidealone.movers import MOST
from besidealone.pairs import where_alike
from besidealone.scripts import WORD_NAME, checks_for, deed_statement, going_on, played, variable_for
from besidealone.sides import raws_of
from besidealone.sights import WAIT, sign_of

# What goes on though nothing tells so.
ENDLESS = ("endless",)


class Picker:
    """Looks for picks with which the one PART comes back to main, and the other one doesn't do the same."""

    def __init__(self, hand, choices, which, trial):
        self.hand = hand
        self.choices = choices
        self.sight = choices.sight
        self.movers = choices.movers
        self.endings = [Endings(mover) for mover in self.movers]
        self.which = which
        self.trial = trial
        # Whether there were more picks than are looked through.
        self.is_cut = False
        # By what both PARTS get behind them, the first INNER calls that tell them apart.
        self.told = self.telling_calls()

    def telling_calls(self):
        """INNER calls that tell the PARTS apart, by what the one gets, ANY if all, and the other one, WAIT if none."""
        found = {}
        for face, couple in self.choices.all_calls() if self.sight.calls_again else []:
            outcomes = self.choices.begun(face, couple, True)
            signs = [sign_of(self.sight, outcome, True) for outcome in outcomes]
            gets = [self.choices.follows(sign, outcome) for sign, outcome in zip(signs, outcomes)]
            is_telling = signs[0] != signs[1] or signs[0][0] == "unseen"
            other = 1 - self.which
            if is_telling and not self.endings[other].is_endless((face, couple[other], (), True)):
                found.setdefault((gets[self.which], WAIT if gets[other] == ANY else gets[other]), (face, couple))
        return found

    def options(self, name, has_inner):
        """All that may be picked for an import."""
        plain = [(lot[0], ()) for lot in self.sight.narrow[name]]
        if not has_inner:
            return plain
        # Where an INNER call ends the other PART, and leaves all to the one, it is of no use to go without it.
        found = [] if (ANY, WAIT) in self.told else plain
        for (got, theirs), call in self.told.items():
            if got == ANY:
                found.extend([(lot[0], call) for lot in self.sight.broad[name]])
            elif got != WAIT:
                found.append((got, call))
        return found

    def group_of(self, outcome):
        """The import that is asked, and the CLASS with which it is."""
        return (outcome[1], self.sight.asks[outcome[1]][outcome[2]])

    def got_by(self, which, pick):
        """What a PART gets by a pick, WAIT if it ends."""
        got, call = pick
        if call == () or which == self.which:
            return got
        outcome = self.movers[which].begin(call[0], call[1][which], (), True)
        if sign_of(self.sight, outcome, True)[0] == "unseen":
            return ("failed", self.sight.back[outcome[1]])
        return WAIT

    def follow(self, which, face, couple, picks):
        """What main's call comes to with a PART, or the ask for which nothing is picked yet."""
        try:
            return self.followed(which, face, couple, picks)
        except TooMany:
            # So it is taken where a body goes on for more STEPS than are looked at.
            return ENDLESS

    def followed(self, which, face, couple, picks):
        """The same, if no body goes on for more STEPS than are looked at."""
        mover = self.movers[which]
        outcome = mover.begin(face, couple[which], (), False)
        if self.endings[which].is_endless((face, couple[which], (), False)):
            return ENDLESS
        been = {}
        while outcome[0] == "ask" and self.group_of(outcome) in picks:
            place = outcome[3]
            got = self.got_by(which, picks[self.group_of(outcome)])
            if got == WAIT:
                return EVER
            if place in been or len(been) > MOST:
                return ENDLESS
            been[place] = True
            outcome = mover.resume(place, (), got)
            if self.endings[which].is_endless((place, (), got)):
                return ENDLESS
        return outcome

    def look_through(self, has_inner):
        """Goes through all picks, the fewest first; whether no more has to be looked for."""
        waiting = [(face, couple, {}) for face, couple in self.choices.all_calls()]
        at = 0
        while at < len(waiting) and len(waiting) <= MOST:
            face, couple, picks = waiting[at]
            asking = self.next_group(face, couple, picks)
            if asking != ():
                waiting.extend([(face, couple, with_pick(picks, asking, pick))
                                for pick in self.options(asking[0], has_inner)])
            elif self.is_done(face, couple, picks):
                return True
            at += 1
        self.is_cut = at < len(waiting)
        return False

    def next_group(self, face, couple, picks):
        """The import, with the CLASS, for which something has to be picked next, () if there is none."""
        outcome = self.follow(self.which, face, couple, picks)
        if outcome[0] == "ask":
            return self.group_of(outcome)
        if self.sight.may_wait or not self.is_back(outcome):
            return ()
        # Where imports may not wait something has to be picked for the other PART, too.
        outcome = self.follow(1 - self.which, face, couple, picks)
        return self.group_of(outcome) if outcome[0] == "ask" else ()

    def is_back(self, outcome):
        """Whether the PART is back in main."""
        return sign_of(self.sight, outcome, False)[0] in ("answer", "fails")

    def is_done(self, face, couple, picks):
        """Whether no more has to be looked for, these picks being tried out, too."""
        mine = self.follow(self.which, face, couple, picks)
        theirs = self.follow(1 - self.which, face, couple, picks)
        if not self.is_back(mine) or theirs == ENDLESS:
            return False
        if sign_of(self.sight, mine, False) == sign_of(self.sight, theirs, False):
            return False
        return self.trial.is_done(self.partner_by(face, couple, picks, mine))

    def is_done_by(self, face, couple, lots):
        """The same for picks out of couples of lots, which are told by imports and CLASSES."""
        told = {}
        for key in lots:
            pick = self.pick_of(lots[key])
            if pick != ():
                told[key] = pick
        picks = {} if self.sight.may_wait else told
        asking = self.next_group(face, couple, picks)
        while asking in told:
            picks = with_pick(picks, asking, told[asking])
            asking = self.next_group(face, couple, picks)
        return asking == () and self.is_done(face, couple, picks)

    def pick_of(self, lots):
        """The pick that gives what couples of lots do, or that ends the other PART; () if there is none."""
        got = lots[self.which][0]
        if got == WAIT:
            return ()
        if lots[0] == lots[1]:
            return (got, ())
        wanted = (WAIT, lots[1 - self.which][0])
        calls = [self.told[mine, theirs] for mine, theirs in self.told if mine in (ANY, got) and theirs in wanted]
        return (got, calls[0]) if calls else ()

    def partner_by(self, face, couple, picks, outcome):
        """The PARTNER that makes a call of main, which comes to an outcome, and whose imports do what is picked."""
        row = [("call", face, self.hand.to_send(face, couple[1 - self.which])), item_of(self.hand, outcome)]
        bodies = {}
        for name, takes, answers in self.hand.faces[1]:
            writer = Writer(self, name)
            rows = []
            for (asked, lot), pick in picks.items():
                if asked == name:
                    rows.extend(where_alike(self.hand.side, takes, lot[0], GIVEN, writer.rows_for(pick), ()))
            bodies[name] = (writer.names, rows + writer.wait_rows())
        return played(self.hand.side, self.hand.faces, row, 1, bodies)


def with_pick(picks, asking, pick):
    """Picks with one more."""
    found = {key: picks[key] for key in picks}
    found[asking] = pick
    return found


class Writer:
    """Writes what the body of an import does."""

    def __init__(self, picker, name):
        self.hand = picker.hand
        self.sight = picker.sight
        self.which = picker.which
        self.mover = picker.movers[picker.which]
        self.name = name
        self.takes = {face: takes for face, takes, answers in self.hand.faces[0] + self.hand.faces[1]}
        self.answers = {face: answers for face, takes, answers in self.hand.faces[0] + self.hand.faces[1]}
        self.names = {"given": self.takes[name]}

    def wait_rows(self):
        """STATEMENTS that have the PART wait for ever."""
        if self.hand.asks_ahead:
            # What is asked ahead may not go on for ever; where the PART may wait a FAIL ends all.
            return [("fail", ("raw", "word", raws_of(self.hand.side, "word")[0]))]
        return [FOR_EVER]

    def rows_for(self, pick):
        """STATEMENTS that do what is picked."""
        got, call = pick
        last = (deed_statement(self.answers[self.name], self.hand.deed(self.name, got)),)
        return last if call == () else self.call_rows(call[0], call[1]) + last

    def call_rows(self, face, couple):
        """STATEMENTS that make an INNER call, and go on if it comes to what it comes to with the one PART."""
        outcome = self.mover.begin(face, couple[self.which], (), True)
        name = variable_for(self.hand.side, self.answers[face])
        self.names[name] = self.answers[face]
        raw = self.hand.to_send(face, couple[1 - self.which])
        call = ("call", name, face, ("raw", self.takes[face], raw))
        head = sign_of(self.sight, outcome, True)[0]
        if head == "unseen":
            # By this FAIL the import FAILS.
            return (call, FOR_EVER)
        if self.sight.sees_fails:
            self.names[WORD_NAME] = "word"
        if head == "fails":
            word = self.hand.fail_got(outcome[1])
            return (("try", (call, FOR_EVER), WORD_NAME, ()),) + self.check_rows("word", word, WORD_NAME)
        # A FAIL that isn't caught here goes on to the PART, which may catch it.
        first = going_on(call, WORD_NAME) if self.sight.sees_fails else call
        return (first,) + self.check_rows(self.answers[face], self.hand.answer_got(face, outcome[1]), name)

    def check_rows(self, kind, raw, name):
        """STATEMENTS that go on for ever unless a variable has what is ALIKE to a RAW."""
        return tuple(checks_for(self.hand.side, kind, raw, ("name", name)))


class Chooser(Choices):
    """Goes through all choices in the order in which Choices do, until a PARTNER by one parts both PARTS."""

    def __init__(self, choices, pickers):
        super().__init__(choices.sight, choices.movers, choices.tokens)
        self.pickers = pickers
        self.passed = 0

    def call_main(self, face, couple):
        """Whether the same is SEEN of a call of main, or more has to be looked for."""
        try:
            return super().call_main(face, couple)
        except TooMany:
            # What is left of this call is more than what is looked at.
            return True

    def go_apart(self, face, couple, choice):
        """Whether more has to be looked for where not the same is SEEN of a call of main by a choice."""
        lots = {key[1:]: self.lots[key[1]][choice[key]] for key in choice if key[0] == LOTS}
        for picker in self.pickers:
            if picker.is_done_by(face, couple, lots):
                return False
        self.passed += 1
        return self.passed < ENOUGH


def look_by_picks(hand, choices, trial):
    """Tries out PARTNERS that make one call of main each, until one parts both PARTS."""
    pickers = [Picker(hand, choices, which, trial) for which in (0, 1)]
    for has_inner in (False, True) if choices.sight.calls_again else (False,):
        for picker in pickers:
            if picker.look_through(has_inner):
                return
    if any([picker.is_cut for picker in pickers]):
        Chooser(choices, pickers).holds()
