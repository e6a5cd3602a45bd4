"""Two PARTS without cells, led on by a partner that doesn't REMEMBER: its imports answer by what they are asked."""

from besidealone.acts import EVER
from besidealone.errors import TooMany
from besidealone.movers import MOST
from besidealone.sights import WAIT, sign_of
from besidealone.walks import is_taken

# What an import may do behind an INNER call that tells both PARTS apart: anything.
ANY = ("any",)
# What tells of a choice, among the PARTS 0 and 1, which lots its couples are from.
LOTS = 2


class Choices:
    """All choices of what the bodies of imports do.

    A choice is a dict from tuples (which, import, raw), of a PART and a RAW on the side of the partner, to what the
    import does there with this PART, and from tuples (LOTS, import, CLASS) to the index of the lots of this.
    """

    def __init__(self, sight, movers, tokens):
        self.sight = sight
        self.movers = movers
        self.tokens = tokens
        # For each import the couples of lots out of which it takes what it does with one and with other.
        self.lots = {}

    def holds(self):
        """Whether the PAPER of these tokens, or the least one that begins with them, is one."""
        many = -1
        while many < len(self.tokens.couples):
            many = len(self.tokens.couples)
            told = self.inner_calls()
            if told is None:
                return False
            self.lots = {name: self.lots_of(name, told) for name in self.sight.narrow}
            for face, couple in self.all_calls():
                if not self.call_main(face, couple):
                    return False
        return True

    def all_calls(self):
        """All calls of exports, each with a couple of what is handed over."""
        found = []
        for face, takes, answers in self.sight.faces[0]:
            given = self.tokens.couples if takes == "thing" else self.sight.calls[face]
            found.extend([(face, couple) for couple in given])
        return found

    def begun(self, face, couple, is_inner):
        """The outcomes of a call with both PARTS."""
        return [self.movers[which].begin(face, couple[which], (), is_inner) for which in (0, 1)]

    def inner_calls(self):
        """All couples of what INNER calls that tell the PARTS apart have an import do; None if no PAPER can hold."""
        told = {}
        for face, couple in self.all_calls() if self.sight.calls_again else []:
            outcomes = self.begun(face, couple, True)
            found = [sign_of(self.sight, outcome, True) for outcome in outcomes]
            if found[0] != found[1] or found[0][0] == "unseen":
                told[tuple([self.follows(sign, outcome) for sign, outcome in zip(found, outcomes)])] = True
            elif found[0] == ("thing",) and not is_taken(self.sight, self.tokens, outcomes, True):
                return None
        return list(told)

    def follows(self, sign, outcome):
        """What an import does behind an INNER call of which this is SEEN."""
        if sign[0] == "unseen":
            return ("failed", self.sight.back[outcome[1]])
        return WAIT if sign[0] == "ends" else ANY

    def lots_of(self, name, told):
        """All couples of lots of what an import may do, one of them for all ALIKE RAWS."""
        waiting = [(WAIT,)] if self.sight.may_wait else []
        found = {(lot, lot): True for lot in self.sight.narrow[name] + waiting}
        for first, second in told:
            for one in self.sight.broad[name] + waiting if first == ANY else [(first,)]:
                for other in self.sight.broad[name] + waiting if second == ANY else [(second,)]:
                    found[one, other] = True
        return list(found)

    def call_main(self, face, couple):
        """Whether the same is SEEN of a call of main with both PARTS, for all choices."""
        begun = self.begun(face, couple, False)
        waiting = [{}]
        many = 0
        while waiting:
            choice = waiting.pop()
            outcomes = [self.follow(which, begun[which], choice) for which in (0, 1)]
            asking = [which for which in (0, 1) if outcomes[which][0] == "ask"]
            if asking:
                found = self.taken(choice, asking[0], outcomes[asking[0]])
                many = many + (len(found) if len(found) > 1 else 0)
                if many > MOST:
                    raise TooMany(MOST)
                waiting.extend(found)
            elif not self.is_same(outcomes) and not self.go_apart(face, couple, choice):
                return False
        return True

    def go_apart(self, face, couple, choice):
        """Whether the PAPER may hold where not the same is SEEN of a call of main by a choice."""
        return False

    def follow(self, which, outcome, choice):
        """What main's call comes to with a PART, or the ask at which the choice has to be taken."""
        been = {}
        while outcome[0] == "ask":
            pick = (which, outcome[1], self.sight.asked[outcome[1]][outcome[2]])
            if pick not in choice:
                return outcome
            if outcome[3] in been or choice[pick] == WAIT:
                return EVER
            been[outcome[3]] = True
            if len(been) > MOST:
                raise TooMany(MOST)
            outcome = self.movers[which].resume(outcome[3], (), choice[pick])
        return outcome

    def taken(self, choice, which, outcome):
        """The choices that a choice becomes where an import is asked."""
        name = outcome[1]
        pick = (which, name, self.sight.asked[name][outcome[2]])
        group = (LOTS, name, self.sight.asks[name][outcome[2]])
        lots = self.lots[name]
        found = []
        for index in [choice[group]] if group in choice else list(range(len(lots))):
            for got in lots[index][which]:
                new = {key: choice[key] for key in choice}
                new[group] = index
                new[pick] = got
                found.append(new)
        return found

    def is_same(self, outcomes):
        """Whether the same is SEEN of outcomes of main's call."""
        sign, other = [sign_of(self.sight, outcome, False) for outcome in outcomes]
        if sign == other == ("thing",):
            return is_taken(self.sight, self.tokens, outcomes, False)
        return sign == other
