"""Given PARTS compared: a PAPER that they are ALIKE, or a PARTNER that parts them."""

from besidealone.apart import Finder, Saver
from besidealone.breaks import parting
from besidealone.choices import Choices
from besidealone.errors import Nothing, TooMany
from besidealone.forms import is_row
from besidealone.hands import hand_at
from besidealone.picks import look_by_picks
from besidealone.programs import is_partner
from besidealone.relations import is_paper, looked_for
from besidealone.sides import has
from besidealone.tables import ways_of
from besidealone.tight import split, split_words

# Within how many STEPS a PARTNER parts both PARTS, and the most PARTNERS that are tried out.
STEPS = 200000
TRIES = 5


class Trial:
    """Tries out PARTNERS for two PARTS at a WHERE, and has the one that parts them, if any."""

    def __init__(self, sides, table, where, parts):
        self.sides = sides
        self.table = table
        self.where = where
        self.parts = parts
        self.tries = 0
        self.partner = ()

    def is_done(self, partner):
        """Whether no more has to be tried behind a PARTNER: it parts both PARTS, or there were many."""
        self.tries += 1
        (left, right), (one, other) = self.sides, self.parts
        if parting(left, right, self.table, self.where, one, other, partner, STEPS) is not None:
            self.partner = partner
        return self.partner != () or self.tries == TRIES


def compared(left, right, table, where, one, other):
    """("alike", paper) or ("parted", partner) for two PARTS at a WHERE."""
    if is_unasked(left, right, table, where, one, other):
        raise Nothing()
    shown, judge = looked_for(left, right, table, where, one, other)
    if shown is not None:
        return ("alike", shown)
    hand = hand_at(left, right, table, where)
    trial = Trial((left, right), table, where, (one, other))
    if isinstance(judge, Choices):
        look_by_picks(hand, judge, trial)
    else:
        Finder(hand, judge, trial).look_through()
        if trial.partner == () and trial.tries > 0:
            # There are PARTNERS, but the shortest rows take too many STEPS.
            trial.tries = 0
            Saver(hand, judge, trial).look_through()
    if trial.partner == ():
        raise TooMany(STEPS)
    return ("parted", trial.partner)


def is_unasked(left, right, table, where, one, other):
    """Whether it may be that there is no PAPER for PARTS that are ALIKE."""
    side = left if where == "alone" else right
    is_tabled = where == "beside" and table[3][1] == "tabled"
    if (one[0] != () or other[0] != ()) and table[1] != () and (is_tabled or not has(side, "keep")):
        return True
    if where == "alone":
        return False
    outs = [way for face, place, way in ways_of(table) if place == "out"]
    return any([split(left, right, way) is not None for way in outs]) or split_words(left, right, table) is not None


def is_compared(left, right, table, where, one, other, thing):
    """Whether any value is what compared may return."""
    # It raises what compared does, whatever the value is.
    compared(left, right, table, where, one, other)
    if not is_row(2, thing):
        return False
    if thing[0] == "alike":
        return is_paper(left, right, table, where, one, other, thing[1])
    hand = hand_at(left, right, table, where)
    if thing[0] != "parted" or not is_partner(hand.side, hand.faces, thing[1]):
        return False
    return parting(left, right, table, where, one, other, thing[1], STEPS) is not None


def lots(left, right, table, where, parts):
    """The indexes of PARTS, as tuples of those that are ALIKE."""
    found = []
    for at, part in enumerate(parts):
        lot = lot_for(left, right, table, where, [(own, parts[own[0]]) for own in found], part)
        if lot is None:
            found.append([at])
        else:
            lot.append(at)
    return tuple([tuple(lot) for lot in found])


def lot_for(left, right, table, where, known, part):
    """The first one of known lots, each told with a PART of it, whose PART is ALIKE to this one; None if none is."""
    for lot, first in known:
        if compared(left, right, table, where, first, part)[0] == "alike":
            return lot
    return None
