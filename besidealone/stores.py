"""HEAPS that are changed EVENT by EVENT."""

from heapq import heappop, heappush

from besidealone.forms import is_integer

# What EVENTS have behind their words: nothing, a thing, or a HANDLE.
PLAIN = ("cross", "new")
OF_THINGS = ("copy", "drop", "out")
OF_HANDLES = ("die", "home")
CROSSINGS = ("cross", "home", "out")


class Pool:
    """Integers from 0 on that are taken, and the least one that isn't."""

    def __init__(self, taken):
        self.used = {number: True for number in taken}
        # All below low are taken, or stand among those that are free again.
        self.low = 0
        self.free = []

    def next_one(self):
        """Takes the least integer that isn't taken."""
        if self.free:
            number = heappop(self.free)
        else:
            while self.low in self.used:
                self.low += 1
            number = self.low
            self.low += 1
        self.used[number] = True
        return number

    def release(self, number):
        """Has an integer be free again."""
        del self.used[number]
        if number < self.low:
            heappush(self.free, number)


class Thing:
    """A thing that isn't freed."""

    def __init__(self, number, count, references):
        self.number = number
        self.count = count
        self.references = references
        # How many HANDLES it has that are not dead, and that are on the line.
        self.handles = 0
        self.waiting = 0


class Store:
    """HEAPS with a BOOK; the last HANDLE that was given is known."""

    def __init__(self, book, heaps):
        self.way, self.up, self.more, self.down, self.back, self.strike, self.find, self.drain, self.hold = book
        things, handles, line, entries = heaps
        self.things = [None if row is None else Thing(row[0], row[1], row[2]) for row in things]
        self.numbers = Pool([row[0] for row in things if row is not None])
        # For each HANDLE its thing, and its address if it is not dead.
        self.owners = [thing for thing, address in handles]
        self.addresses = {at: row[1] for at, row in enumerate(handles) if row[1] is not None}
        self.room = Pool(list(self.addresses.values()))
        self.at_address = {address: at for at, address in self.addresses.items()}
        self.line = list(line)
        self.entries = {number: (handle, address) for number, handle, address in entries}
        self.given = -1
        # The things that may be late.
        self.touched = list(range(len(things)))
        self.count_handles()

    def count_handles(self):
        """Counts the HANDLES of each thing."""
        for at in list(self.addresses) + self.line:
            thing = self.things[self.owners[at]]
            if thing is not None and at in self.addresses:
                thing.handles += 1
            elif thing is not None:
                thing.waiting += 1

    def heaps(self):
        """The HEAPS."""
        things = [None if own is None else (own.number, own.count, own.references) for own in self.things]
        handles = [(thing, self.addresses.get(at, None)) for at, thing in enumerate(self.owners)]
        entries = [(number,) + self.entries[number] for number in sorted(self.entries)]
        return (tuple(things), tuple(handles), tuple(self.line), tuple(entries))

    def can_come(self, thing):
        """Whether any value is an EVENT that can come."""
        if not isinstance(thing, tuple) or thing == () or not isinstance(thing[0], str):
            return False
        if thing[0] in PLAIN:
            return len(thing) == 1
        if len(thing) != 2:
            return False
        if thing[0] in OF_THINGS:
            return self.has_thing(thing[1]) and self.things[thing[1]].references > 0
        if thing[0] in OF_HANDLES:
            return is_integer(thing[1]) and thing[1] in self.addresses
        return thing[0] == "move" and self.are_addresses(thing[1])

    def has_thing(self, index):
        """Whether any value is the index of a thing that isn't freed."""
        return is_integer(index) and 0 <= index < len(self.things) and self.things[index] is not None

    def are_addresses(self, thing):
        """Whether any value is as many unlike addresses as there are HANDLES that are not dead."""
        if not isinstance(thing, tuple) or len(thing) != len(self.addresses):
            return False
        if not all([is_integer(address) and address >= 0 for address in thing]):
            return False
        return len(set(thing)) == len(thing)

    def come(self, event):
        """Has an EVENT come; returns the word for how it goes WRONG, "" if it doesn't."""
        if event[0] in CROSSINGS:
            why = self.cross(event)
        else:
            why = self.do(event)
        if why == "" and any([self.is_late(at) for at in self.touched]):
            why = "late"
        self.touched = []
        return why

    def is_late(self, at):
        """Whether a thing isn't freed that nobody can come to any more."""
        thing = self.things[at]
        return thing is not None and thing.references == 0 and thing.handles == 0 and thing.waiting == 0

    def do(self, event):
        """Has an EVENT come that is no CROSSING."""
        head = event[0]
        if head == "new":
            self.things.append(Thing(self.numbers.next_one(), 1, 1))
        elif head == "die":
            self.die(event[1])
        elif head == "move":
            self.move(event[1])
        else:
            thing = self.things[event[1]]
            step = 1 if head == "copy" else -1
            thing.references += step
            return self.change(event[1], step)
        return ""

    def die(self, handle):
        """Has a HANDLE be dead, and stand last on the line."""
        address = self.addresses.pop(handle)
        self.room.release(address)
        del self.at_address[address]
        thing = self.things[self.owners[handle]]
        if thing is not None:
            thing.handles -= 1
            thing.waiting += 1
        self.line.append(handle)

    def move(self, addresses):
        """Has the HANDLES that are not dead have these addresses."""
        self.addresses = {handle: address for handle, address in zip(list(self.addresses), addresses)}
        self.room = Pool(addresses)
        self.at_address = {address: handle for handle, address in self.addresses.items()}

    def change(self, at, step):
        """Changes the count of a thing; returns how this goes WRONG, "" if it doesn't."""
        thing = self.things[at]
        thing.count += step
        self.touched.append(at)
        if thing.count > 0:
            return ""
        self.things[at] = None
        self.numbers.release(thing.number)
        is_early = thing.count < 0 or thing.references > 0 or thing.handles > 0 or thing.waiting > 0
        return "early" if is_early else ""

    def cross(self, event):
        """Has a CROSSING come."""
        if self.drain == "behind":
            return self.own_deed(event) or self.work_off()
        return self.work_off() or self.own_deed(event)

    def own_deed(self, event):
        """The deed of a CROSSING but for the line."""
        if event[0] == "out":
            return self.give_handle(event[1])
        if event[0] == "home":
            at = self.owners[event[1]]
            thing = self.things[at]
            thing.references += 1
            return self.change(at, self.back)
        return ""

    def work_off(self):
        """Works the line off."""
        line = self.line
        self.line = []
        for handle in line:
            at = self.owners[handle]
            thing = self.things[at]
            if thing is None:
                continue
            thing.waiting -= 1
            entry = self.entries.get(thing.number, ())
            if entry != () and (self.strike == "always" or (self.strike == "own" and entry[0] == handle)):
                del self.entries[thing.number]
            why = self.change(at, -self.down)
            if why != "":
                return why
        return ""

    def give_handle(self, at):
        """Gives a HANDLE of a thing."""
        number = self.things[at].number
        if self.way == "fresh" or number not in self.entries:
            return self.make_handle(at)
        handle, address = self.entries[number]
        found = handle if self.hold == "index" else self.at_address.get(address, -1)
        is_good = found in self.addresses and self.owners[found] == at
        if not is_good:
            return "other" if self.find == "any" else self.make_handle(at)
        self.given = found
        return self.change(at, self.more)

    def make_handle(self, at):
        """Makes a HANDLE of a thing."""
        thing = self.things[at]
        if self.way == "kept" and thing.handles > 0:
            return "second"
        handle = len(self.owners)
        address = self.room.next_one()
        self.owners.append(at)
        self.addresses[handle] = address
        self.at_address[address] = handle
        thing.handles += 1
        if self.way == "kept":
            self.entries[thing.number] = (handle, address)
        self.given = handle
        return self.change(at, self.up)
