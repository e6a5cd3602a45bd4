"""PARTNERS that part two PARTS where a Walk, or Choices, have found out that there is no PAPER for them.

which tells the PART, 0 or 1, with which such a PARTNER says yes; whose the one whose values are sent to both: where
those of a couple are two they are ALIKE, so that the other PART does what is ALIKE to what it did.
"""

from besidealone.choices import LOTS
from besidealone.grounds import FOR_EVER, GIVEN
from besidealone.pairs import where_alike
from besidealone.scripts import WORD_NAME, checks_by, deed_statement, played, variable_for
from besidealone.sides import raws_of
from besidealone.sights import WAIT, sign_of
from besidealone.telling import choice
from besidealone.walks import Walk


class Player:
    """A PART that is led along moves, with the row of what the partner does and gets."""

    def __init__(self, hand, sight, mover):
        self.hand = hand
        self.sight = sight
        self.mover = mover
        self.row = []
        # Where the PART waits, () if it doesn't, and what its cells have.
        self.place = ()
        self.state = mover.first_state()

    def move(self, move):
        """Has the partner make a move."""
        if move[0] == "call":
            self.row.append(("call", move[1], self.hand.to_send(move[1], move[2])))
            outcome = self.mover.begin(move[1], move[2], self.state, self.place != ())
            if self.place == ():
                self.follow_on(outcome)
            else:
                self.follow_inner(outcome)
        else:
            self.row.append(self.hand.deed(self.mover.import_at(self.place), move[1]))
            self.follow_on(self.mover.resume(self.place, self.state, move[1]))

    def follow_on(self, outcome):
        """Goes on with what the PART does in main's call."""
        self.row.append(self.item(outcome))
        if outcome[0] == "ask":
            self.place, self.state = outcome[3:]
        else:
            self.place, self.state = (), outcome[2]

    def follow_inner(self, outcome):
        """Goes on with what the PART does in an INNER call."""
        self.row.append(self.item(outcome))
        self.state = outcome[2]
        if outcome[0] == "fails" and not self.sight.sees_fails:
            # Nobody catches it, so that the import FAILS as well.
            self.row.append(("fails", self.hand.fail_got(outcome[1])))
            self.follow_on(self.mover.resume(self.place, self.state, ("failed", self.sight.back[outcome[1]])))

    def item(self, outcome):
        """What the partner gets."""
        if outcome[0] == "answer":
            return ("answer", self.hand.answer_got(outcome[3], outcome[1]))
        if outcome[0] == "ask":
            return ("ask", outcome[1], self.hand.asking_got(outcome[1], outcome[2]))
        return ("failed", self.hand.fail_got(outcome[1]))


def tries_of(judge):
    """All couples of which and whose for a Walk or Choices."""
    if isinstance(judge, Walk):
        backs = judge.backs
    else:
        signs = [sign_of(judge.sight, outcome, False) for outcome in judge.apart[3]]
        backs = [sign[0] in ("answer", "fails") for sign in signs]
    return [(which, whose) for which in (0, 1) if backs[which] for whose in (1 - which, which)]


def partner_by(hand, judge, which, whose):
    """A PARTNER that parts both PARTS, unless one of its runs is too long."""
    if isinstance(judge, Walk):
        return walked(hand, judge, which, whose)
    return chosen(hand, judge, which, whose)


def walked(hand, walk, which, whose):
    """The PARTNER that makes the moves of a Walk, looks at what comes apart, and leads the one PART back to main."""
    player = Player(hand, walk.sight, walk.movers[which])
    moves = walk.way_apart()
    for move in moves[:-1]:
        player.move(own_move(move, whose))
    # The partner's own item stands ahead of what it gets.
    at = len(player.row) + 1
    player.move(own_move(moves[-1], whose))
    for move in walk.singles[which].way_back():
        player.move(move)
    return played(hand.side, hand.faces, player.row, at, {})


def own_move(move, whose):
    """A move that has a couple of values, with one of them."""
    return move[:-1] + (move[-1][whose],)


def chosen(hand, choices, which, whose):
    """The PARTNER that makes one call, whose imports do what Choices have found."""
    face, values, picked, outcomes = choices.apart
    player = Player(hand, choices.sight, choices.movers[which])
    row = [("call", face, hand.to_send(face, values[whose])), player.item(outcomes[which])]
    groups = asked_groups(choices, which, face, values[which], picked)
    bodies = {}
    for name, takes, answers in hand.faces[1]:
        writer = Answerer(hand, choices, name, (which, whose))
        rows = []
        for own, lot in groups:
            if own == name:
                rows.extend(writer.at_class(takes, lot, writer.deed_rows(picked[LOTS, name, lot])))
        rows.extend(elsewhere(choices, writer, takes, groups, picked))
        bodies[name] = (writer.names, rows)
    return played(hand.side, hand.faces, row, 1, bodies)


def asked_groups(choices, which, face, value, picked):
    """The imports, each with a CLASS, that a PART asks in a call of main beside a choice."""
    mover, sight = choices.movers[which], choices.sight
    found = {}
    outcome = mover.begin(face, value, (), False)
    while outcome[0] == "ask":
        found[outcome[1], sight.asks[outcome[1]][outcome[2]]] = True
        got = picked[which, outcome[1], sight.asked[outcome[1]][outcome[2]]]
        outcome = mover.resume(outcome[3], (), got)
    return list(found)


def elsewhere(choices, writer, takes, groups, picked):
    """STATEMENTS of an import for the CLASSES with which the PART that says yes doesn't ask it."""
    rows = []
    if not choices.sight.may_wait:
        # What the other PART is answered there is part of the choice.
        others = [key[1:] for key in picked if key[0] == LOTS and key[1] == writer.name]
        for name, lot in others:
            if (name, lot) not in groups:
                rows.extend(writer.at_class(takes, lot, writer.deed_rows(picked[LOTS, name, lot])))
    return rows + writer.wait_rows()


class Answerer:
    """What writes the body of an import that does what Choices have found."""

    def __init__(self, hand, choices, name, roles):
        self.hand = hand
        self.choices = choices
        self.name = name
        self.which, self.whose = roles
        self.takes = {face: takes for face, takes, answers in hand.faces[0] + hand.faces[1]}
        self.answers = {face: answers for face, takes, answers in hand.faces[0] + hand.faces[1]}
        self.names = {"given": self.takes[name]}

    def wait_rows(self):
        """STATEMENTS that have the PART wait for ever."""
        if self.hand.asks_ahead:
            # What is asked ahead may not go on for ever; where the PART may wait a FAIL ends all.
            return [("fail", ("raw", "word", raws_of(self.hand.side, "word")[0]))]
        return [FOR_EVER]

    def at_class(self, takes, lot, statements):
        """The STATEMENTS where the import is asked with a RAW of a CLASS."""
        return where_alike(self.hand.side, takes, lot[0], GIVEN, tuple(statements), ())

    def deed_rows(self, index):
        """STATEMENTS that do what the lots of an index say, behind the INNER call that they need, if any."""
        lots = self.choices.lots[self.name][index]
        inner = self.choices.inner[self.name][lots]
        got = lots[self.which][0]
        last = self.wait_rows()
        if got != WAIT:
            last = [deed_statement(self.answers[self.name], self.hand.deed(self.name, got))]
        return last if inner == () else self.behind_call(inner, last)

    def behind_call(self, inner, last):
        """STATEMENTS that make an INNER call, and go on if it comes to what it comes to with the PART."""
        face, values = inner
        outcome = self.choices.movers[self.which].begin(face, values[self.which], (), True)
        name = variable_for(self.hand.side, self.answers[face])
        self.names[name] = self.answers[face]
        call = ("call", name, face, ("raw", self.takes[face], self.hand.to_send(face, values[self.whose])))
        head = sign_of(self.choices.sight, outcome, True)[0]
        if head == "answer":
            raw = self.hand.answer_got(face, outcome[1])
            return [call] + self.check_rows(self.answers[face], raw, name) + last
        if head == "fails":
            self.names[WORD_NAME] = "word"
            word = self.hand.fail_got(outcome[1])
            return [("try", (call, FOR_EVER), WORD_NAME, ())] + self.check_rows("word", word, WORD_NAME) + last
        # By its FAIL the import FAILS; or all ends.
        return [call, FOR_EVER]

    def check_rows(self, kind, raw, name):
        """STATEMENTS that go on for ever unless a variable has what is ALIKE to a RAW."""
        return checks_by(choice(self.hand.side, kind, raw), ("name", name))
