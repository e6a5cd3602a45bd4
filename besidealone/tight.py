"""TIGHT: what is gained BESIDE, told by the sentences that don't hold."""

from besidealone.couples import couple_or_none, least_couple
from besidealone.likeness import classes
from besidealone.sides import has, raws_of
from besidealone.tables import into_word, led, out_word, twice, ways_of


def split(left, right, way):
    """The least couple of ALIKE RAWS that a WAY to the right leads to unlike ones, None if there is none."""
    raws = raws_of(left, way[0])
    ends = {raw: led(left, way, raw) for raw in raws}
    return couple_or_none(least_couple(raws, ends, classes(left, way[0]), classes(right, way[1]), True))


def split_words(left, right, table):
    """The least couple of ALIKE left WORDS that are led to unlike right ones, None if there is none."""
    words = raws_of(left, "word")
    ends = {word: out_word(left, table, word) for word in words}
    return couple_or_none(least_couple(words, ends, classes(left, "word"), classes(right, "word"), True))


def split_again(left, right, table):
    """The least couple of ALIKE left WORDS that are led out and in again to unlike ones, None if there is none."""
    words = raws_of(left, "word")
    ends = {word: into_word(right, table, out_word(left, table, word)) for word in words}
    lots = classes(left, "word")
    return couple_or_none(least_couple(words, ends, lots, lots, True))


def tight_faults(left, right, table):
    """The sentences of [8] that don't hold."""
    outs = [(face, way) for face, place, way in ways_of(table) if place == "out"]
    faults = [("T1", face) for face, way in outs if split(left, right, way) is not None]
    checks = (("T2", keeps_fails), ("T3", keeps_memory), ("T4", keeps_calls), ("T5", keeps_things))
    for name, check in checks:
        if not check(left, right, table):
            faults.append((name,))
    return tuple(sorted(faults))


def is_tight(left, right, table):
    """Whether all sentences of [8] hold."""
    return tight_faults(left, right, table) == ()


def asks_nothing_live(table):
    """Whether there is no import, or they are tabled."""
    return table[1] == () or table[3][1] == "tabled"


def calls_never_again(right, table):
    """Whether no partner BESIDE calls while an import waits."""
    return asks_nothing_live(table) or table[3][2] == "barred" or not has(right, "again")


def keeps_fails(left, right, table):
    """Whether T2 holds."""
    if table[3][0] == "stops" or (has(left, "catch") and split_words(left, right, table) is None):
        return True
    if has(right, "catch"):
        return False
    return calls_never_again(right, table) or not has(left, "catch") or split_again(left, right, table) is None


def keeps_memory(left, right, table):
    """Whether T3 holds."""
    return asks_nothing_live(table) or not has(right, "keep") or has(left, "keep")


def keeps_calls(left, right, table):
    """Whether T4 holds."""
    return calls_never_again(right, table) or has(left, "again") or not has(left, "keep")


def keeps_things(left, right, table):
    """Whether T5 holds."""
    return table[3][3] == "fresh" or not has(right, "same") or has(left, "same") or not twice(left, table)
