"""The glue: what a TABLE makes of what crosses, and how tabled imports are asked ahead."""

from besidealone.acts import Clock, advance, begun, catch
from besidealone.ready import Program
from besidealone.runs import Receipts
from besidealone.tables import import_of, into_word, led, met, right_faces


def came(left, right, table, face, kept):
    """What the part's call of an import gives for what its body does."""
    if kept[0] == "fails":
        if table[3][0] == "stops":
            return ("stops",)
        return ("failed", into_word(right, table, kept[1]))
    raw = led(right, import_of(table, face)[2], kept[1])
    return ("failed", table[2][2]) if raw == "" else ("reply", raw)


def asked(left, right, table, partner, most):
    """What is kept of all imports if the asking ends within so many STEPS, otherwise None."""
    end, kept = asked_ahead(table, Program(right, right_faces(table)[1], partner), Clock(most))
    return kept if end == "" else None


def asked_ahead(table, partner, clock):
    """How the asking of a PARTNER that is made ready ends, "" if a run goes on behind it, and what is kept."""
    kept = {}
    for name, out, into in table[1]:
        kept[name] = {}
        for raw in met(out):
            told = asked_once(partner, name, raw, table[2][3], clock)
            if told[0] in ("on", "ever"):
                return told[0], {}
            kept[name][raw] = told
    return "", kept


def ahead_of_main(table, partner, clock):
    """The same of what happens ahead of main: where imports are live nothing is asked."""
    return asked_ahead(table, partner, clock) if table[3][1] == "tabled" else ("", {})


def asked_once(partner, name, raw, refused, clock):
    """What the body of an import does with a RAW while all its calls FAIL; ("on",) or ("ever",) if it doesn't end."""
    frame = begun(partner.bodies[name], raw, list(partner.first), Receipts(True))
    while True:
        event = advance(frame, clock)
        if event[0] == "call":
            frame.been = {}
            if not catch(frame, refused):
                return ("fails", refused)
        elif event[0] == "answer":
            return ("reply", event[1])
        elif event[0] == "end":
            return ("ever",)
        else:
            return event
