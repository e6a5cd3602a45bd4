"""What a right PARTNER tells apart is brought back to the left SIDE."""

from besidealone.breaks import parted_logs
from besidealone.errors import Nothing, NotRight
from besidealone.hands import NearHand
from besidealone.pures import Contest, bodies_for, chain_row, telling_call
from besidealone.rows import apart_at, merged, row_by
from besidealone.scripts import played
from besidealone.sides import has
from besidealone.tables import faces
from besidealone.tight import tight_faults


def replaying(left, table, log):
    """The left PARTNER that does as the partner of a log did, and says YES behind that if the PART does the same."""
    if needs_more(left, log):
        raise Nothing()
    hand = NearHand(left, table)
    return played(left, hand.faces, row_by(hand, log), -1, {})


def needs_more(left, log):
    """Whether a partner would need a power that the SIDE lacks to do as the partner of a log did."""
    if not has(left, "again") and any([crossing[0] == "call" and crossing[3] for crossing in log]):
        return True
    return not has(left, "catch") and any([crossing[0] == "fails" for crossing in log])


def brought_back(left, right, table, one, other, partner, most):
    """A left PARTNER that parts two PARTS ALONE as a right one does BESIDE."""
    faults = tight_faults(left, right, table)
    if faults != ():
        raise NotRight(faults)
    told_apart = parted_logs(left, right, table, "beside", (one, other), partner, most)
    if told_apart == ():
        raise Nothing()
    parts, logs = told_apart
    hand = NearHand(left, table)
    if has(left, "keep") or table[1] == ():
        at = apart_at(left, table, logs[0], logs[1])
        return played(left, hand.faces, row_by(hand, merged(logs[0], logs[1], at)), at, {})
    told, inner = faces(table), table[2][4]
    spec, outcomes, imports = telling_call(Contest(left, told, inner, hand, parts), told, hand, logs, most)
    row = chain_row(hand, spec, outcomes)
    return played(left, told, row, len(row) - 1, bodies_for(hand, imports, spec[2], inner))
