"""Whether a PART makes the moves of a log, told once more: it is played with what the log's partner did."""

from tests.reference_faults import Alike
from tests.reference_runs import Answered, Ended, Failed, Scope, Thing, World


class Unlike(Exception):
    """The PART makes another move."""


class Follower:

    def __init__(self, left, table, part, log, most):
        self.left, self.table, self.part, self.log = left, table, part, log
        self.alike = Alike(left)
        self.world = World(most)
        self.cells = {name: None if kind == "thing" else raw for name, kind, raw in part[0]}
        self.at = 0
        self.given, self.numbers = [], []

    def follows(self):
        try:
            while self.at < len(self.log):
                self.call()
        except (Ended, Unlike):
            return False
        return True

    def need(self, truth):
        if not truth:
            raise Unlike()

    def next(self, head):
        """The next CROSSING, if it begins so."""
        found = self.log[self.at]
        self.at += 1
        self.need(found[0] == head)
        return found

    def call(self):
        """A call of an export, by main or by an import's body, up to its end."""
        _, face, value, is_inner = self.next("call")
        row = [own for own in self.table[0] if own[0] == face][0]
        given = value if isinstance(value, str) else self.given[value]
        body = self.part[1][self.table[0].index(row)]
        scope = Scope(self.world, self.left, self.part[0], self.cells, body, given)
        try:
            answer = self.drive(scope, self.fail_inner if is_inner else self.ask)
        except Failed as error:
            word = self.next("fails")[1]
            self.need("catch" not in self.left[2] or self.alike("word", word, error.args[0]))
            return
        if isinstance(answer, Thing):
            number = self.next("gave")[2]
            if "same" in self.left[2]:
                self.need([own is answer for own in self.given] == [own == number for own in self.numbers])
            self.given.append(answer)
            self.numbers.append(number)
        else:
            self.need(self.alike(row[2][0], self.next("answer")[1], answer))

    def drive(self, scope, call):
        going = scope.block(scope.statements)
        send, value = going.send, None
        try:
            while True:
                face, argument = send(value)
                try:
                    send, value = going.send, call(face, argument)
                except Failed as error:
                    send, value = going.throw, Failed(error.args[0])
        except Answered as error:
            return error.args[0]
        except StopIteration:
            raise Ended("ever") from None

    def fail_inner(self, face, argument):
        raise Failed(self.table[2][4])

    def ask(self, face, argument):
        _, name, raw = self.next("ask")
        row = [own for own in self.table[1] if own[0] == face][0]
        self.need(name == face and self.alike(row[1][0], raw, argument))
        while self.log[self.at][0] == "call":
            self.call()
        head, got = self.log[self.at]
        self.at += 1
        if head == "failed":
            raise Failed(got)
        assert head == "reply"
        return got


def follows(left, table, part, log, most=20000):
    """Whether a PART makes the same moves as the one of a log, as far as the left SIDE can tell."""
    return Follower(left, table, part, log, most).follows()
