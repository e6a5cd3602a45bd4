"""FAITHFUL: what is lost BESIDE, told by the sentences that don't hold."""

from besidealone.couples import couple_or_none, least_couple
from besidealone.likeness import classes
from besidealone.sides import has, raws_of
from besidealone.tables import import_of, led, met, out_word, twice, ways_of


def joined(left, right, way):
    """The least couple of unlike RAWS that a WAY to the right leads to ALIKE ones, None if there is none."""
    raws = raws_of(left, way[0])
    ends = {raw: led(left, way, raw) for raw in raws}
    return couple_or_none(least_couple(raws, ends, classes(left, way[0]), classes(right, way[1]), False))


def joined_words(left, right, table):
    """The least couple of unlike left WORDS that are led to ALIKE right ones, None if there is none."""
    words = raws_of(left, "word")
    ends = {word: out_word(left, table, word) for word in words}
    return couple_or_none(least_couple(words, ends, classes(left, "word"), classes(right, "word"), False))


def missed(left, way):
    """The left CLASSES to which a WAY from the right doesn't lead."""
    return lots_without(classes(left, way[1]), met(way))


def missed_words(left, right, table, face):
    """The CLASSES of left WORDS by which no call of an import FAILS."""
    into = import_of(table, face)[2]
    refused = (table[2][2],) if "" in into[2] else ()
    return lots_without(classes(left, "word"), table[2][1] + refused)


def lots_without(lots, raws):
    """Those of these lots in which none of these RAWS stands."""
    return tuple([lot for lot in lots if not any([raw in raws for raw in lot])])


def faithful_faults(left, right, table):
    """The sentences of [9] that don't hold."""
    ways = ways_of(table)
    faults = [("F1", face) for face, place, way in ways if place == "out" and joined(left, right, way) is not None]
    faults.extend([("F2", face) for face, place, way in ways if place == "into" and missed(left, way) != ()])
    checks = (("F3", leads_fails), ("F4", leads_memory), ("F5", leads_calls), ("F6", leads_things))
    for name, check in checks:
        if not check(left, right, table):
            faults.append((name,))
    return tuple(sorted(faults))


def is_faithful(left, right, table):
    """Whether all sentences of [9] hold."""
    return faithful_faults(left, right, table) == ()


def leads_fails(left, right, table):
    """Whether F3 holds."""
    if not has(left, "catch"):
        return True
    if not shows_fails(right, table) or joined_words(left, right, table) is not None:
        return False
    return all([missed_words(left, right, table, row[0]) == () for row in table[1]])


def shows_fails(right, table):
    """Whether a partner BESIDE SEES that its call FAILS."""
    return has(right, "catch") and table[3][0] == "crosses"


def leads_memory(left, right, table):
    """Whether F4 holds."""
    is_live = table[3][1] == "live"
    if table[1] == ():
        return True
    if not has(left, "keep"):
        return is_live or not has(left, "catch") or table[3][0] == "stops"
    return has(right, "keep") and is_live


def leads_calls(left, right, table):
    """Whether F5 holds."""
    if table[1] == () or not has(left, "again") or not has(left, "keep"):
        return True
    return has(right, "again") and table[3][2] == "let"


def leads_things(left, right, table):
    """Whether F6 holds."""
    if not has(left, "same") or not twice(left, table):
        return True
    return has(right, "same") and table[3][3] == "kept"
