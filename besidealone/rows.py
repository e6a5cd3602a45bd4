"""The logs of runs as rows of what a partner does and gets, and where two of them differ.

A row has ("call", face, argument), ("reply", raw) and ("fails", word) for what the partner does, and ("answer", raw),
("gave", receipt, thing), ("failed", word) and ("ask", face, raw) for what it gets; receipts are integers.
"""

from besidealone.likeness import likeness, lot_with
from besidealone.sides import has
from besidealone.tables import faces

# What begins with these in a log is done by the partner; all else is done by the PART.
DONE_BY_PARTNER = ("call", "reply", "failed")
CALL_ENDS = ("answer", "gave", "fails")


def row_by(hand, log):
    """The row of a partner with this hand with which a PART has the CROSSINGS of a log."""
    row = []
    called = []
    asked = ""
    for crossing in log:
        head = crossing[0]
        if head == "call":
            called.append(crossing[1])
            row.append(("call", crossing[1], argument_by(hand, crossing[1], crossing[2])))
        elif head == "ask":
            asked = crossing[1]
            row.append(("ask", asked, hand.asking_got(asked, crossing[2])))
        elif head in ("reply", "failed"):
            row.append(hand.deed(asked, crossing))
        else:
            row.append(end_by(hand, called.pop(), crossing))
    return row


def argument_by(hand, face, value):
    """What an export is called with for a left RAW, or for a receipt."""
    return hand.to_send(face, value) if isinstance(value, str) else value


def end_by(hand, face, crossing):
    """What the partner gets when a call of an export ends so."""
    if crossing[0] == "answer":
        return ("answer", hand.answer_got(face, crossing[1]))
    if crossing[0] == "fails":
        return ("failed", hand.fail_got(crossing[1]))
    return crossing


def apart_at(left, table, one, other):
    """The index of the first CROSSING of a log of which a partner ALONE gets something else in another log.

    Up to there the partner does what is ALIKE in both; the other log may end there.
    """
    signs = [signs_of(left, table, log) for log in (one, other)]
    at = 0
    while at < len(one) and at < len(other) and signs[0][at] == signs[1][at]:
        at += 1
    return at


def signs_of(left, table, log):
    """What a partner ALONE gets of each CROSSING of a log; of what it does itself this is nothing."""
    lots = dict(likeness(left))
    exports, imports = faces(table)
    answers = {name: kind for name, takes, kind in exports}
    takes = {name: kind for name, kind, replies in imports}
    found = []
    called = []
    # For each thing that came the RECEIPT by which it came first.
    first = {}
    for crossing in log:
        head = crossing[0]
        sign = ()
        if head == "call":
            called.append(crossing[1])
        elif head == "ask":
            sign = ("ask", crossing[1], lot_with(lots[takes[crossing[1]]], crossing[2]))
        elif head in CALL_ENDS:
            face = called.pop()
            sign = (head,)
            if head == "answer":
                sign = (head, lot_with(lots[answers[face]], crossing[1]))
            elif head == "fails" and has(left, "catch"):
                sign = (head, lot_with(lots["word"], crossing[1]))
            elif head == "gave" and has(left, "same"):
                sign = (head, first.setdefault(crossing[2], crossing[1]))
        found.append(sign)
    return found


def merged(one, other, at):
    """The log of the one PART up to the end of main's call in which an index lies.

    Ahead of this index the partner does what it does in the other log, so that the other PART does there just what it
    did; the one PART can't tell.
    """
    found = []
    depth = 0
    for index, crossing in enumerate(one):
        is_other = index < at and crossing[0] in DONE_BY_PARTNER
        found.append(other[index] if is_other else crossing)
        if crossing[0] == "call":
            depth += 1
        elif crossing[0] in CALL_ENDS:
            depth -= 1
        if index >= at and depth == 0:
            return found
    return found
