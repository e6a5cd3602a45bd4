"""Runs, told once more: bodies are generators, FAILS are exceptions, things are objects."""

import itertools


class Ended(Exception):
    """The run ends."""


class Failed(Exception):
    """A call FAILS, or a body does."""


class Answered(Exception):
    """A body answers."""


class Thing:
    def __init__(self, number, content):
        self.number, self.content = number, content


class Held:
    """A thing as the partner has it."""

    def __init__(self, receipt, thing, handle):
        self.receipt, self.thing, self.handle = receipt, thing, handle


class World:
    """What all bodies of a run share: its STEPS, and the numbers of things."""

    def __init__(self, most):
        self.most, self.steps, self.things = most, 0, 0

    def step(self):
        if self.steps == self.most:
            raise Ended("on")
        self.steps += 1

    def make(self, content):
        self.things += 1
        return Thing(self.things - 1, content)


class Scope:
    """One body that is begun."""

    def __init__(self, world, side, program_cells, cells, body, given):
        self.world, self.side, self.cells = world, side, cells
        self.kinds = dict(body[0])
        self.cell_kinds = {name: kind for name, kind, _ in program_cells}
        self.names = {}
        for name, kind in body[0]:
            self.names[name] = None if kind == "thing" else dict(side[0])[kind][0]
        if "given" in self.names:
            self.names["given"] = given
        self.statements = body[1]
        self.calls = 0

    def value(self, expression):
        head = expression[0]
        if head == "raw":
            return expression[2]
        if head == "do":
            _, takes, _, results = [row for row in self.side[1] if row[0] == expression[1]][0]
            rows = list(itertools.product(*[dict(self.side[0])[kind] for kind in takes]))
            return results[rows.index(tuple([self.value(part) for part in expression[2]]))]
        if head == "same":
            one, other = self.value(expression[1]), self.value(expression[2])
            if isinstance(one, Held):
                return "yes" if one.handle == other.handle else "no"
            return "yes" if one is other else "no"
        found = (self.names if head == "name" else self.cells)[expression[1]]
        if found is None:
            raise Ended("ever")
        return found

    def kind(self, expression):
        head = expression[0]
        if head == "raw":
            return expression[1]
        if head == "do":
            return [row for row in self.side[1] if row[0] == expression[1]][0][2]
        if head == "same":
            return "truth"
        return (self.kinds if head == "name" else self.cell_kinds)[expression[1]]

    def step(self):
        self.world.step()

    def now(self):
        told = list(self.names.values()) + list(self.cells.values())
        return [self.calls] + [one.receipt if isinstance(one, Held) else one for one in told]

    def block(self, statements):
        for statement in statements:
            yield from self.statement(statement)

    def statement(self, statement):
        self.step()
        head = statement[0]
        if head == "let":
            self.names[statement[1]] = self.value(statement[2])
        elif head == "put":
            self.cells[statement[1]] = self.value(statement[2])
        elif head == "call":
            value = self.value(statement[3])
            self.calls += 1
            self.names[statement[1]] = yield statement[2], value
        elif head == "make":
            self.names[statement[1]] = self.world.make((self.kind(statement[2]), self.value(statement[2])))
        elif head == "look":
            kind, raw = self.value(statement[2]).content
            if kind != self.kinds[statement[1]]:
                raise Ended("ever")
            self.names[statement[1]] = raw
        elif head == "if":
            yield from self.block(statement[2] if self.value(statement[1]) == "yes" else statement[3])
        elif head == "while":
            yield from self.loop(statement)
        elif head == "try":
            try:
                yield from self.block(statement[1])
                return
            except Failed as error:
                self.names[statement[2]] = error.args[0]
            yield from self.block(statement[3])
        elif head == "answer":
            raise Answered(self.value(statement[1]))
        elif head == "fail":
            raise Failed(self.value(statement[1]))
        else:
            raise Ended(statement[1])

    def loop(self, statement):
        been = []
        while True:
            if self.now() in been:
                raise Ended("ever")
            been.append(self.now())
            if self.value(statement[1]) == "no":
                return
            yield from self.block(statement[2])
            self.step()


def led(side, way, raw):
    return dict(zip(dict(side[0])[way[0]], way[2]))[raw]


class Play:
    """A run; right is None ALONE."""

    def __init__(self, left, right, table, part, partner, most):
        self.left, self.right, self.table, self.part, self.partner = left, right, table, part, partner
        self.world = World(most)
        self.there = left if right is None else right
        self.failing, self.imports, self.again, self.handles = table[3]
        if right is None:
            self.failing, self.imports, self.again, self.handles = "crosses", "live", "let", "kept"
        self.part_cells = self.first(part)
        self.partner_cells = self.first(partner)
        self.log, self.seen, self.known, self.receipts = [], [], [], 0
        self.waits = False

    def first(self, program):
        return {name: None if kind == "thing" else raw for name, kind, raw in program[0]}

    def words(self, word, out):
        if self.right is None:
            return word
        side = self.left if out else self.right
        return dict(zip(dict(side[0])["word"], self.table[2][0 if out else 1]))[word]

    def scope(self, *told):
        return Scope(self.world, *told)

    def run(self):
        kept = {}
        try:
            if self.imports == "tabled":
                kept = self.ask_ahead()
        except Ended as error:
            return error.args[0], (), ()
        try:
            self.kept = kept
            main = self.scope(self.there, self.partner[0], self.partner_cells, self.partner[1], None)
            self.drive(main, self.export, False)
            end = "end"
        except Failed:
            end = "fails"
        except Ended as error:
            end = error.args[0]
        return end, tuple(self.log), tuple(self.seen)

    def drive(self, scope, call, needs_answer):
        """Runs a body; call tells what its calls give."""
        going = scope.block(scope.statements)
        send, value = going.send, None
        try:
            while True:
                face, argument = send(value)
                try:
                    send, value = going.send, call(face, argument)
                except Failed as error:
                    send, value = going.throw, Failed(error.args[0])
        except Answered as error:
            return error.args[0]
        except StopIteration:
            if needs_answer:
                raise Ended("ever") from None
            return None

    def ask_ahead(self):
        def refuse(face, argument):
            raise Failed(self.table[2][3])

        kept = {}
        for at, (name, out, _) in enumerate(self.table[1]):
            for raw in sorted(set(out[2])):
                scope = self.scope(self.there, self.partner[0], self.first(self.partner), self.partner[2][at], raw)
                try:
                    kept[name, raw] = ("reply", self.drive(scope, refuse, True))
                except Failed as error:
                    kept[name, raw] = ("fails", error.args[0])
        return kept

    def export(self, face, argument):
        at = [row[0] for row in self.table[0]].index(face)
        _, into, out = self.table[0][at]
        told = argument.receipt if isinstance(argument, Held) else argument
        self.seen.append(("call", face, told))
        given = argument.thing if isinstance(argument, Held) else argument
        if self.right is not None and into != ("thing",):
            given = told = led(self.right, into, argument)
        if given == "" or (self.waits and self.again == "barred"):
            return self.fail_there(self.table[2][3])
        self.log.append(("call", face, told, self.waits))
        scope = self.scope(self.left, self.part[0], self.part_cells, self.part[1][at], given)
        try:
            answer = self.drive(scope, self.inner if self.waits else self.ask, True)
        except Failed as error:
            self.log.append(("fails", error.args[0]))
            if self.failing == "stops":
                raise Ended("stops") from None
            return self.fail_there(self.words(error.args[0], True))
        return self.come(answer, out)

    def fail_there(self, word):
        self.seen.append(("failed", word))
        raise Failed(word)

    def come(self, answer, out):
        if isinstance(answer, Thing):
            if self.handles == "kept":
                if answer not in self.known:
                    self.known.append(answer)
                handle = self.known.index(answer)
            else:
                handle = self.receipts
            held = Held(self.receipts, answer, handle)
            self.receipts += 1
            self.log.append(("gave", held.receipt, answer.number))
            self.seen.append(("gave", held.receipt, handle))
            return held
        self.log.append(("answer", answer))
        answer = answer if self.right is None else led(self.left, out, answer)
        self.seen.append(("answer", answer))
        return answer

    def inner(self, face, argument):
        raise Failed(self.table[2][4])

    def ask(self, face, argument):
        at = [row[0] for row in self.table[1]].index(face)
        _, out, into = self.table[1][at]
        self.log.append(("ask", face, argument))
        asked = argument if self.right is None else led(self.left, out, argument)
        if self.imports == "tabled":
            head, got = self.kept[face, asked]
        else:
            self.seen.append(("ask", face, asked))
            scope = self.scope(self.there, self.partner[0], self.partner_cells, self.partner[2][at], asked)
            self.waits = True
            try:
                head, got = "reply", self.drive(scope, self.export, True)
            except Failed as error:
                head, got = "fails", error.args[0]
            self.waits = False
            self.seen.append((head, got))
        if head == "fails":
            if self.failing == "stops":
                raise Ended("stops")
            got = self.words(got, False)
        elif self.right is not None:
            got = led(self.right, into, got)
            head, got = ("fails", self.table[2][2]) if got == "" else ("reply", got)
        if head == "fails":
            self.log.append(("failed", got))
            raise Failed(got)
        self.log.append(("reply", got))
        return got


def alone(left, table, part, partner, most):
    return Play(left, None, table, part, partner, most).run()[:2]


def beside(left, right, table, part, partner, most):
    return Play(left, right, table, part, partner, most).run()


def ahead(left, right, table, partner, most):
    """What asked [23] tells."""
    play = Play(left, right, table, ((), ()), partner, most)
    try:
        kept = play.ask_ahead()
    except Ended:
        return None
    found = {}
    for name, raw in sorted(kept):
        found.setdefault(name, {})[raw] = kept[name, raw]
    return found
