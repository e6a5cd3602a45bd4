"""Counted and moving HEAPS, told once more, by dicts that are copied for each EVENT."""

import itertools


class Wrong(Exception):
    """An EVENT goes WRONG."""


BEGIN = (((0, 1, 1),), (), (), ())


class State:

    def __init__(self, book, heaps):
        self.book = dict(zip(("way", "up", "more", "down", "home", "strike", "find", "drain", "hold"), book))
        self.things = [row and list(row) for row in heaps[0]]
        self.handles = [list(row) for row in heaps[1]]
        self.line = list(heaps[2])
        self.entries = {row[0]: row[1:] for row in heaps[3]}

    def heaps(self):
        return (tuple([row and tuple(row) for row in self.things]), tuple([tuple(row) for row in self.handles]), tuple(self.line),
                tuple([(number, *self.entries[number]) for number in sorted(self.entries)]))

    def alive(self, thing=None):
        return [at for at, (own, address) in enumerate(self.handles) if address is not None and thing in (None, own)]

    def add(self, thing, many):
        row = self.things[thing]
        row[1] += many
        if row[1] <= 0:
            waits = any(self.handles[handle][0] == thing for handle in self.line)
            if row[2] or self.alive(thing) or waits or row[1] < 0:
                raise Wrong("early")
            self.things[thing] = None

    def work_off(self):
        while self.line:
            handle = self.line.pop(0)
            thing = self.handles[handle][0]
            number = self.things[thing][0]
            strike = self.book["strike"]
            if number in self.entries and (strike == "always" or (strike == "own" and self.entries[number][0] == handle)):
                del self.entries[number]
            self.add(thing, -self.book["down"])

    def make(self, thing):
        if self.book["way"] == "kept" and self.alive(thing):
            raise Wrong("second")
        used = {address for _, address in self.handles}
        address = next(number for number in itertools.count() if number not in used)
        self.handles.append([thing, address])
        if self.book["way"] == "kept":
            self.entries[self.things[thing][0]] = (len(self.handles) - 1, address)
        self.add(thing, self.book["up"])

    def out(self, thing):
        entry = self.entries.get(self.things[thing][0])
        if self.book["way"] == "fresh" or entry is None:
            return self.make(thing)
        if self.book["hold"] == "index":
            looked = [entry[0]]
        else:
            looked = [at for at in self.alive() if self.handles[at][1] == entry[1]]
        good = [at for at in looked if at in self.alive(thing)]
        if good:
            return self.add(thing, self.book["more"])
        if self.book["find"] == "any":
            raise Wrong("other")
        return self.make(thing)

    def come(self, event):
        head, *rest = event
        if head == "new":
            used = {row[0] for row in self.things if row}
            self.things.append([next(number for number in itertools.count() if number not in used), 1, 1])
        elif head in ("copy", "drop"):
            step = 1 if head == "copy" else -1
            self.things[rest[0]][2] += step
            self.add(rest[0], step)
        elif head == "die":
            self.handles[rest[0]][1] = None
            self.line.append(rest[0])
        elif head == "move":
            for at, address in zip(self.alive(), rest[0]):
                self.handles[at][1] = address
        else:
            if self.book["drain"] == "ahead":
                self.work_off()
            if head == "home":
                thing = self.handles[rest[0]][0]
                self.things[thing][2] += 1
                self.add(thing, self.book["home"])
            elif head == "out":
                self.out(rest[0])
            if self.book["drain"] == "behind":
                self.work_off()
        for at, row in enumerate(self.things):
            if row and not row[2] and not self.alive(at) and not any(self.handles[handle][0] == at for handle in self.line):
                raise Wrong("late")


def behind(book, heaps, event):
    state = State(book, heaps)
    try:
        state.come(event)
    except Wrong as error:
        return "wrong", error.args[0]
    return "heaps", state.heaps()


def events(heaps, most=1):
    """All EVENTS that can come, addresses up to so many above the number of HANDLES."""
    things, handles, _, _ = heaps
    found = [("new",), ("cross",)]
    for at, row in enumerate(things):
        if row and row[2]:
            found += [("copy", at), ("drop", at), ("out", at)]
    alive = [at for at, row in enumerate(handles) if row[1] is not None]
    for at in alive:
        found += [("home", at), ("die", at)]
    for addresses in itertools.permutations(range(len(alive) + most), len(alive)):
        found.append(("move", addresses))
    return found


def shortest(book, most, room=1):
    """How long the shortest row is that goes WRONG, up to so many EVENTS; None if there is none."""
    now, known = {BEGIN}, {BEGIN}
    for length in range(1, most + 1):
        new = set()
        for heaps in now:
            for event in events(heaps, room):
                head, told = behind(book, heaps, event)
                if head == "wrong":
                    return length
                if told not in known:
                    known.add(told)
                    new.add(told)
        now = new
    return None
