"""The acts of which a body that is made ready consists, and how they are run one behind the other.

An act is a function of a Frame. It returns None where the body goes on by itself, otherwise what has to be done
for it: ("call", face, value), ("answer", value), ("fails", word), ("say", raw), ("end",), ("ever",) or ("wrong",).
A reader is a function of a Frame, too: it returns what an EXPRESSION gives there.
"""

# What a variable or cell of things has that has none.
NO_THING = ()
EVER = ("ever",)
END = ("end",)
ON = ("on",)


class Clock:
    """How many STEPS may still be begun."""

    def __init__(self, left):
        self.left = left


class Frame:
    """A body that is run: where it is, and what its variables and the cells of its program have."""

    def __init__(self, body, cells, things):
        self.body = body
        self.held = list(body.first)
        self.cells = cells
        self.things = things
        self.at = 0
        # For each while what was there when it asked, since it was begun and since the last call.
        self.been = {}


def begun(body, given, cells, things):
    """The Frame of a body that begins; given is looked at only if the body has an argument."""
    frame = Frame(body, cells, things)
    if body.given >= 0:
        frame.held[body.given] = given
    return frame


def advance(frame, clock):
    """Runs a body until something has to be done for it, or no STEP is left: then ("on",) is returned."""
    acts, costs = frame.body.acts, frame.body.costs
    event = None
    while event is None:
        if costs[frame.at]:
            if clock.left == 0:
                return ON
            clock.left -= 1
        act = acts[frame.at]
        event = act(frame)
    return event


def give(frame, value):
    """Has the call at which a body waits give a value."""
    frame.held[frame.body.gets[frame.at]] = value
    frame.at += 1


def catch(frame, word):
    """Has what stands where a body is FAIL with a WORD; whether a try of the body catches it."""
    around = frame.body.tries[frame.at]
    if around == ():
        return False
    frame.held[around[1]] = word
    frame.at = frame.body.labels[around[0]]
    return True


def raw_reader(raw):
    """Reads a RAW."""
    return lambda frame: raw


def name_reader(place):
    """Reads a variable."""
    return lambda frame: frame.held[place]


def cell_reader(place):
    """Reads a cell."""
    return lambda frame: frame.cells[place]


def one_reader(results, read):
    """Reads what an operation of one argument gives."""
    return lambda frame: results[read(frame)]


def two_reader(results, first, second):
    """Reads what an operation of two arguments gives."""
    return lambda frame: results[first(frame), second(frame)]


def same_reader(first, second):
    """Reads whether two things are one."""
    return lambda frame: "yes" if frame.things.are_same(first(frame), second(frame)) else "no"


def guarded_act(needs, act):
    """The act, ahead of which it is looked whether all these variables and cells have things."""
    def guarded(frame):
        for is_cell, place in needs:
            if (frame.cells if is_cell else frame.held)[place] == NO_THING:
                return EVER
        return act(frame)
    return guarded


def let_act(place, read):
    """Has a variable have what is read."""
    def let(frame):
        frame.held[place] = read(frame)
        frame.at += 1
    return let


def let_thing_act(place, read):
    """Has a variable have the thing that is read."""
    def let(frame):
        elder, thing = frame.held[place], read(frame)
        frame.held[place] = thing
        frame.at += 1
        return frame.things.took(thing, elder)
    return let


def put_act(place, read):
    """Has a cell have what is read."""
    def put(frame):
        frame.cells[place] = read(frame)
        frame.at += 1
    return put


def put_thing_act(place, read):
    """Has a cell have the thing that is read."""
    def put(frame):
        elder, thing = frame.cells[place], read(frame)
        frame.cells[place] = thing
        frame.at += 1
        return frame.things.took(thing, elder)
    return put


def call_act(face, read):
    """Calls a face; the body stays where it is until it is told what the call gives."""
    return lambda frame: ("call", face, read(frame))


def make_act(place, kind, read):
    """Makes a thing."""
    def make(frame):
        elder = frame.held[place]
        frame.held[place] = frame.things.make(kind, read(frame))
        frame.at += 1
        return frame.things.lost(elder)
    return make


def look_act(place, kind, read):
    """Looks into a thing, with a variable of a KIND."""
    def look(frame):
        content = frame.things.content(read(frame))
        if content[0] != kind:
            return EVER
        frame.held[place] = content[1]
        frame.at += 1
        return None
    return look


def if_act(read, labels, other):
    """Goes on to the first block, or to the second one at its label."""
    def choose(frame):
        frame.at = frame.at + 1 if read(frame) == "yes" else labels[other]
    return choose


def forget_act(frame):
    """Begins a while, whose asking stands at the next place."""
    frame.at += 1
    frame.been[frame.at] = {}


def ask_act(read, labels, end):
    """Asks whether a while goes on."""
    def ask(frame):
        known = frame.been.setdefault(frame.at, {})
        now = tuple(frame.held + frame.cells)
        if now in known:
            return EVER
        known[now] = True
        frame.at = frame.at + 1 if read(frame) == "yes" else labels[end]
        return None
    return ask


def jump_act(labels, label):
    """Goes on at a label."""
    def jump(frame):
        frame.at = labels[label]
    return jump


def go_act(frame):
    """Goes on at the next place."""
    frame.at += 1


def answer_act(read):
    """Answers."""
    return lambda frame: ("answer", read(frame))


def fail_act(read):
    """Fails with a WORD."""
    def fail(frame):
        word = read(frame)
        return None if catch(frame, word) else ("fails", word)
    return fail


def say_act(raw):
    """Says a truth."""
    return lambda frame: ("say", raw)


def end_act(frame):
    """Stands behind the last STATEMENT of a body."""
    return END
