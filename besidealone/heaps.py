"""HEAPS, EVENT by EVENT, and the rows of EVENTS that go WRONG."""

from besidealone.books import is_safe
from besidealone.stores import Store

# Any BOOK will do to ask which EVENTS can come.
PLAIN_BOOK = ("fresh", 1, 0, 1, 1, "own", "live", "ahead", "index")


def new_heaps():
    """The HEAPS at the begin."""
    return (((0, 1, 1),), (), (), ())


def can_come(heaps, thing):
    """Whether any value is an EVENT that can come."""
    return Store(PLAIN_BOOK, heaps).can_come(thing)


def behind(book, heaps, event):
    """What HEAPS become by an EVENT: ("heaps", heaps), or ("wrong", why)."""
    store = Store(book, heaps)
    why = store.come(event)
    return ("heaps", store.heaps()) if why == "" else ("wrong", why)


def is_wrong_row(book, thing):
    """Whether any value is a row of EVENTS that can come, of which just the last one goes WRONG."""
    if not isinstance(thing, tuple):
        return False
    store = Store(book, new_heaps())
    for at, event in enumerate(thing):
        if not store.can_come(event):
            return False
        if store.come(event) != "":
            return at == len(thing) - 1
    return False


def wrong_row(book):
    """A shortest row of EVENTS that goes WRONG, None if the BOOK is safe."""
    if is_safe(book):
        return None
    waiting = [((), new_heaps())]
    known = {}
    at = 0
    # No shortest row needs a second thing: so there is always one to be found.
    while True:
        row, heaps = waiting[at]
        for event in likely_events(heaps):
            found, told = behind(book, heaps, event)
            if found == "wrong":
                return row + (event,)
            if told not in known:
                known[told] = True
                waiting.append((row + (event,), told))
        at += 1


def likely_events(heaps):
    """The EVENTS that can come in HEAPS of one thing, as far as they matter for a shortest row."""
    things, handles, line, entries = heaps
    alive = [at for at, row in enumerate(handles) if row[1] is not None]
    events = []
    if things[0] is not None and things[0][2] > 0:
        events.extend([("out", 0), ("drop", 0)])
    for at in alive:
        events.extend([("home", at), ("die", at)])
    if line:
        events.append(("cross",))
    if alive:
        # Addresses that none has had.
        top = max([handles[at][1] for at in alive] + [row[2] for row in entries]) + 1
        events.append(("move", tuple([top + at for at in range(len(alive))])))
    return events
