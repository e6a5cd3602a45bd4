"""Runs on HEAPS, told once more: a run whose bodies tell of each reference."""

from tests.reference_heaps import State, Wrong
from tests.reference_runs import Ended, Failed, Held, Play, Scope, Thing, led


class Counting(Scope):
    """A body whose references are counted, if it is the part's; ahead of whose STEPS a collector comes, if not."""

    def __init__(self, play, *told):
        super().__init__(play.world, *told)
        self.play = play
        self.is_part = self.cells is play.part_cells

    def step(self):
        world = self.world
        if not self.is_part and self.play.is_on and world.steps < world.most and world.steps in self.play.collector:
            self.play.collect(self.play.collector[world.steps])
        super().step()

    def statement(self, statement):
        if not self.is_part or statement[0] not in ("let", "put", "make"):
            yield from super().statement(statement)
            return
        room = self.cells if statement[0] == "put" else self.names
        elder = room[statement[1]]
        yield from super().statement(statement)
        thing = room[statement[1]]
        if isinstance(thing, Thing):
            self.play.event("new" if statement[0] == "make" else "copy", *([] if statement[0] == "make" else [thing.number]))
            if elder is not None:
                self.play.event("drop", elder.number)


class HeapPlay(Play):

    def __init__(self, left, right, table, part, partner, book, collector, most):
        super().__init__(left, right, table[:3] + (table[3][:3] + (book[0],),), part, partner, most)
        self.collector = dict(collector)
        self.state = State(book, ((), (), (), ()))
        self.row, self.scopes = [], []
        self.is_on = False

    def scope(self, *told):
        found = Counting(self, *told)
        if not found.is_part:
            self.scopes.append(found)
        return found

    def event(self, *event):
        self.row.append(event)
        try:
            self.state.come(event)
        except Wrong:
            raise Ended("wrong") from None

    def collect(self, shift):
        had = [value.handle for scope in self.scopes for value in scope.names.values() if isinstance(value, Held)]
        had += [value.handle for value in self.partner_cells.values() if isinstance(value, Held)]
        for handle in self.state.alive():
            if handle not in had:
                self.event("die", handle)
        alive = self.state.alive()
        if alive:
            self.event("move", tuple(range(shift, shift + len(alive))))

    def ask_ahead(self):
        found = super().ask_ahead()
        self.scopes = []
        return found

    def drive(self, scope, call, needs_answer):
        if scope.statements is self.partner[1][1]:
            self.is_on = True
        return super().drive(scope, call, needs_answer)

    def export(self, face, argument):
        into = [row[1] for row in self.table[0] if row[0] == face][0]
        barred = self.waits and self.again == "barred"
        if isinstance(argument, Held) and not barred:
            self.event("home", argument.handle)
        else:
            self.event("cross")
        given = argument.thing if isinstance(argument, Held) else led(self.right, into, argument)
        if given == "" or barred:
            return self.fail_there(self.table[2][3])
        return self.body(face, given, [row for row in self.table[0] if row[0] == face][0][2])

    def body(self, face, given, out):
        at = [row[0] for row in self.table[0]].index(face)
        scope = self.scope(self.left, self.part[0], self.part_cells, self.part[1][at], given)
        try:
            answer = self.drive(scope, self.inner if self.waits else self.ask, True)
        except Failed as error:
            if self.failing == "stops":
                raise Ended("stops") from None
            self.event("cross")
            self.drop_all(scope)
            return self.fail_there(self.words(error.args[0], True))
        if isinstance(answer, Thing):
            answer = self.give(answer)
        else:
            self.event("cross")
            answer = led(self.left, out, answer)
        self.drop_all(scope)
        return answer

    def give(self, thing):
        """The HANDLE that is given: a new one, or, by its entry, one that was there."""
        many, number = len(self.state.handles), self.state.things[thing.number][0]
        elder = self.state.entries.get(number)
        looked = [at for at in self.state.alive() if self.state.handles[at][1] == elder[1]] if elder else []
        self.event("out", thing.number)
        handle = many
        if len(self.state.handles) == many:
            handle = elder[0] if self.state.book["hold"] == "index" else looked[0]
        self.receipts += 1
        return Held(self.receipts - 1, thing, handle)

    def drop_all(self, scope):
        for name in sorted(scope.names):
            if isinstance(scope.names[name], Thing):
                self.event("drop", scope.names[name].number)

    def ask(self, face, argument):
        if self.imports == "tabled":
            return super().ask(face, argument)
        at = [row[0] for row in self.table[1]].index(face)
        _, out, into = self.table[1][at]
        self.event("cross")
        scope = self.scope(self.there, self.partner[0], self.partner_cells, self.partner[2][at], led(self.left, out, argument))
        self.waits = True
        try:
            head, got = "reply", self.drive(scope, self.export, True)
        except Failed as error:
            head, got = "fails", error.args[0]
        self.waits = False
        self.scopes.remove(scope)
        if head == "fails":
            if self.failing == "stops":
                raise Ended("stops")
            self.event("cross")
            raise Failed(self.words(got, False))
        self.event("cross")
        got = led(self.right, into, got)
        if got == "":
            raise Failed(self.table[2][2])
        return got


def on_heaps(left, right, table, part, partner, book, collector, most):
    play = HeapPlay(left, right, table, part, partner, book, collector, most)
    return play.run()[0], tuple(play.row)
