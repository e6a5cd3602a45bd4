"""PARTS without cells, as functions of their imports: which call tells two of them apart.

A spec tells a call by what it takes to make it: (raw, faces, is_inner). The first face is called with the RAW, each
further one with the thing that the one ahead of it answered.
"""

from besidealone.acts import Clock, advance, begun, catch, give
from besidealone.grounds import GIVEN
from besidealone.likeness import likeness, lot_with
from besidealone.pairs import where_alike
from besidealone.ready import Program
from besidealone.rows import CALL_ENDS
from besidealone.runs import Things
from besidealone.scripts import deed_statement
from besidealone.sides import has, raws_of

# The most STEPS of the last try.
LONG = 200000


def specs_of(log):
    """The specs of the calls in a log, in the order in which they end; behind them those that don't end."""
    found = []
    open_calls = []
    given = []
    for crossing in log:
        if crossing[0] == "call":
            face, value, is_inner = crossing[1:]
            if isinstance(value, str):
                open_calls.append((value, (face,), is_inner))
            else:
                raw, called, is_inner = given[value]
                open_calls.append((raw, called + (face,), is_inner))
        elif crossing[0] in CALL_ENDS:
            spec = open_calls.pop()
            found.append(spec)
            if crossing[0] == "gave":
                given.append(spec)
    return found + open_calls[::-1]


class Imports:
    """What imports do in a log, by the left CLASSES of what they are asked with, as a partner's hand can do it."""

    def __init__(self, left, told, hand, log):
        self.lots = dict(likeness(left))
        self.takes = {name: takes for name, takes, answers in told[1]}
        self.hand = hand
        # The deeds by import and CLASS, and the gots by import and RAW.
        self.deeds = {}
        self.gots = {}
        face, lot = "", ()
        for crossing in log:
            if crossing[0] == "ask":
                face = crossing[1]
                lot = lot_with(self.lots[self.takes[face]], crossing[2])
            elif crossing[0] in ("reply", "failed") and (face, lot) not in self.deeds:
                self.learn(face, lot, crossing)

    def learn(self, face, lot, got):
        """Has an import do what gives this at a CLASS, if that can be done."""
        deed = self.hand.deed(face, got)
        if deed == ():
            return
        self.deeds[face, lot] = deed
        for raw in lot:
            self.gots[face, raw] = self.hand.got_by(face, deed)


class Pure:
    """A PART without cells beside imports that are functions of what they are asked with."""

    def __init__(self, left, told, inner, hand, part):
        self.program = Program(left, told[0], part)
        self.inner = inner
        self.hand = hand

    def outcomes(self, specs, gots, most):
        """What all of these specs come to, by the specs, each call within so many STEPS; () where a thing lacks."""
        found = {}
        for raw, called, is_inner in list({spec: True for spec in specs}):
            ahead = found.get((raw, called[:-1], is_inner), ())
            if len(called) == 1:
                value = self.hand.arriving(called[0], self.hand.to_send(called[0], raw))
                found[raw, called, is_inner] = self.call(called[0], value, is_inner, gots, most)
            elif ahead != () and ahead[0] == "gave":
                found[raw, called, is_inner] = self.call(called[-1], ahead[1], is_inner, gots, most)
            else:
                found[raw, called, is_inner] = ()
        return found

    def call(self, face, value, is_inner, gots, most):
        """What one call comes to; a thing is told by its content, and, if it is answered, by whether it was given."""
        things = Things()
        given = value if isinstance(value, str) else things.make(value[0], value[1])
        frame = begun(self.program.bodies[face], given, [], things)
        clock = Clock(most)
        while True:
            event = advance(frame, clock)
            if event[0] == "call":
                frame.been = {}
                got = ("failed", self.inner) if is_inner else gots.get((event[1], event[2]), ())
                if got == ():
                    return ("ever",)
                if got[0] == "reply":
                    give(frame, got[1])
                elif not catch(frame, got[1]):
                    return ("fails", got[1])
            elif event[0] == "answer" and not isinstance(event[1], str):
                return ("gave", things.content(event[1]), event[1] == given)
            else:
                return event


class Contest:
    """Two PARTS without cells, the first of which says yes, in search of a call that tells them apart."""

    def __init__(self, left, told, inner, hand, parts):
        self.left = left
        self.lots = dict(likeness(left))
        self.answers = {name: answers for name, takes, answers in told[0]}
        self.pures = [Pure(left, told, inner, hand, part) for part in parts]

    def sign_for(self, spec, outcome):
        """What a partner ALONE gets of what a call comes to, () if it doesn't come back to it."""
        if outcome[0] == "answer":
            return ("answer", lot_with(self.lots[self.answers[spec[1][-1]]], outcome[1]))
        if outcome[0] == "gave":
            return ("gave", outcome[2] and has(self.left, "same"))
        if outcome[0] == "fails" and has(self.left, "catch"):
            return ("fails", lot_with(self.lots["word"], outcome[1]))
        return ()

    def found(self, specs, gots, most, is_last):
        """The first spec that tells both apart, with what it, and what is ahead of it, come to with the first PART.

        () is returned if there is none. What still goes on behind so many STEPS is passed by, unless this is the last
        try.
        """
        one, other = [pure.outcomes(specs, gots, most) for pure in self.pures]
        for spec in specs:
            if () in (one[spec], other[spec]) or (other[spec] == ("on",) and not is_last):
                continue
            sign = self.sign_for(spec, one[spec])
            if sign != () and sign != self.sign_for(spec, other[spec]):
                raw, called, is_inner = spec
                return (spec, [one[raw, called[:many + 1], is_inner] for many in range(len(called))])
        return ()


def telling_call(contest, told, hand, logs, most):
    """The spec of a call that tells both PARTS apart, what it comes to, and what imports do beside it; or ()."""
    tries = [(log, Imports(contest.left, told, hand, log)) for log in logs]
    for steps, is_last in ((most, False), (LONG, True)):
        for log, imports in tries:
            found = contest.found(specs_of(log), imports.gots, steps, is_last)
            if found != ():
                return found + (imports,)
    return ()


def chain_row(hand, spec, outcomes):
    """The row of main's calls of a spec that comes to this."""
    raw, called, is_inner = spec
    row = []
    thing = -1
    for number, face in enumerate(called):
        outcome = outcomes[number]
        row.append(("call", face, hand.to_send(face, raw) if number == 0 else number - 1))
        if outcome[0] == "gave":
            # A thing that was given comes back as the one that came ahead.
            thing = thing if outcome[2] else number
            row.append(("gave", number, thing))
        elif outcome[0] == "answer":
            row.append(("answer", hand.answer_got(face, outcome[1])))
        else:
            row.append(("failed", hand.fail_got(outcome[1])))
    return row


def bodies_for(hand, imports, is_inner, inner):
    """The bodies of imports beside a call that is told apart, or, if it was an INNER one, beside the same of main."""
    found = {}
    for name, takes, answers in hand.faces[1]:
        rows = []
        if is_inner:
            deed = hand.deed(name, ("failed", inner))
            rows = [] if deed == () else [deed_statement(answers, deed)]
        else:
            for raw, deed in cases_of(hand, imports, name, takes):
                rows.extend(where_alike(hand.side, takes, raw, GIVEN, (deed_statement(answers, deed),), ()))
        # What is asked ahead may not go on for ever.
        if hand.asks_ahead:
            rows.append(("fail", ("raw", "word", raws_of(hand.side, "word")[0])))
        found[name] = ({"given": takes}, rows)
    return found


def cases_of(hand, imports, name, takes):
    """RAWS with which an import may be asked, on the side of the partner, no two of them ALIKE, with its deeds."""
    lots = dict(likeness(hand.side))[takes]
    found = {}
    for face, lot in imports.deeds:
        for raw in lot if face == name else ():
            found.setdefault(lot_with(lots, hand.asking_got(name, raw))[0], imports.deeds[face, lot])
    return list(found.items())
