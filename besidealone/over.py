"""What a left PARTNER tells apart is led over to the right SIDE."""

from besidealone.beside import run_beside
from besidealone.breaks import parted_logs
from besidealone.errors import Nothing, NotRight
from besidealone.faithful import faithful_faults
from besidealone.hands import FarHand
from besidealone.pures import Contest, bodies_for, chain_row, telling_call
from besidealone.rows import apart_at, merged, row_by
from besidealone.scripts import played
from besidealone.sides import has
from besidealone.tables import faces

# With these many STEPS for each one of the told run, and for each one of as many more, a PARTNER is done for sure.
STEPS_FOR_ONE = 200
MORE = 1000
# What main does and gets where no body of an import calls.
IN_MAIN = ("call", "answer", "gave", "failed")


def led_over(left, right, table, one, other, partner, most):
    """A right PARTNER that parts two PARTS BESIDE as a left one does ALONE."""
    faults = faithful_faults(left, right, table)
    if faults != ():
        raise NotRight(faults)
    told_apart = parted_logs(left, right, table, "alone", (one, other), partner, most)
    if told_apart == ():
        raise Nothing()
    parts, logs = told_apart
    hand = FarHand(left, right, table)
    if has(left, "keep") or table[1] == ():
        at = apart_at(left, table, logs[0], logs[1])
        row, bodies = row_by(hand, merged(logs[0], logs[1], at)), {}
    else:
        told, inner = faces(table), table[2][4]
        spec, outcomes, imports = telling_call(Contest(left, told, inner, hand, parts), told, hand, logs, most)
        row, bodies = chain_row(hand, spec, outcomes), bodies_for(hand, imports, spec[2], inner)
        at = len(row) - 1
    # What comes from the PART that says yes may be led over otherwise than what is ALIKE to it in the log.
    first = played(right, hand.faces, row, len(row), bodies)
    seen = run_beside(left, right, table, parts[0], first, STEPS_FOR_ONE * (most + MORE))[2]
    if bodies != {}:
        seen = [item for item in seen if item[0] in IN_MAIN]
    return played(right, hand.faces, seen, at, bodies)
