"""Losses: two PARTS that are ALIKE BESIDE, and a PARTNER ALONE that parts them."""

from besidealone.breaks import STEPS, are_programs, is_good_paper, parting
from besidealone.errors import Nothing
from besidealone.faithful import faithful_faults, joined, joined_words, missed, missed_words, shows_fails
from besidealone.grounds import Ground, answering_once, asking_same, calling_again, left_ground
from besidealone.grounds import plain_of, saying_behind, telling_answers, telling_asks, telling_fails
from besidealone.pairs import again_or_new, answering_apart, answering_at_argument, answering_at_reply
from besidealone.pairs import answering_at_word, asking_apart, called_while_waiting, failing_apart, once_or_twice
from besidealone.pairs import tried_or_not
from besidealone.relations import paper
from besidealone.sides import has, raws_of
from besidealone.tables import export_of, faces, import_of


def losing(left, right, table, fault):
    """The LOSS for a FAULT of a TABLE that is EVEN."""
    if fault not in faithful_faults(left, right, table):
        raise Nothing()
    (one, other), partner = lost(left, right, table, fault)
    return (one, other, partner, paper(left, right, table, "beside", one, other))


def lost(left, right, table, fault):
    """The PARTS and the PARTNER of the LOSS for a FAULT of the TABLE."""
    ground = left_ground(left, table)
    if fault[0] == "F1":
        return lost_out(left, right, table, ground, fault[1])
    if fault[0] == "F2":
        return lost_into(left, table, ground, fault[1])
    if fault[0] == "F3":
        return lost_fails(left, right, table, ground)
    if fault[0] == "F4":
        return lost_asks(left, table, ground)
    if fault[0] == "F5":
        return called_while_waiting(left, table), calling_again(ground, table)
    return again_or_new(table), asking_same(ground, table)


def lost_out(left, right, table, ground, face):
    """The same where the out of a face leads unlike RAWS to ALIKE ones."""
    export = export_of(table, face)
    if export is None:
        couple = joined(left, right, import_of(table, face)[1])
        return asking_apart(left, table, face, couple), telling_asks(ground, table, face, couple)
    couple = joined(left, right, export[2])
    return answering_apart(table, face, couple), telling_answers(ground, table, face, couple)


def lost_into(left, table, ground, face):
    """The same where the into of a face doesn't lead to a CLASS."""
    export = export_of(table, face)
    if export is None:
        raw = missed(left, import_of(table, face)[2])[0][0]
        body = (("answer", ("raw", ground.replies[face], raw)),)
        partner = saying_behind(ground, (), plain_of(table), {face: ({}, body)})
        return answering_at_reply(left, table, face, raw), partner
    raw = missed(left, export[1])[0][0]
    sending = Ground(left, ground.faces, {face: raw}, ground.answered)
    return answering_at_argument(left, table, face, raw), saying_behind(sending, (), face, {})


def lost_fails(left, right, table, ground):
    """The same for F3."""
    if not shows_fails(right, table):
        return failing_apart(table, (raws_of(left, "word")[0], "")), telling_fails(ground, table, ())
    words = joined_words(left, right, table)
    if words is not None:
        return failing_apart(table, words), telling_fails(ground, table, words)
    face, lots = [(row[0], missed_words(left, right, table, row[0])) for row in table[1]
                  if missed_words(left, right, table, row[0]) != ()][0]
    body = (("fail", ("raw", "word", lots[0][0])),)
    partner = saying_behind(ground, (), plain_of(table), {face: ({}, body)})
    return answering_at_word(left, table, face, lots[0][0]), partner


def lost_asks(left, table, ground):
    """The same for F4."""
    if has(left, "keep"):
        return once_or_twice(left, table), answering_once(ground, table)
    # Tried ALONE the import never comes back.
    return tried_or_not(left, table), saying_behind(ground, (), plain_of(table), {table[1][0][0]: ({}, ())})


def is_loss(left, right, table, thing):
    """Whether any value is a LOSS."""
    if not are_programs(left, table, left, faces(table), thing):
        return False
    one, other, partner, shown = thing
    if parting(left, right, table, "alone", one, other, partner, STEPS) != "one":
        return False
    return is_good_paper(left, right, table, "beside", one, other, shown)
