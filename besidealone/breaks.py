"""Breaks: two PARTS that are ALIKE ALONE, and a PARTNER BESIDE that parts them."""

from besidealone.alone import run_alone
from besidealone.beside import run_beside
from besidealone.errors import Nothing, TooMany
from besidealone.forms import is_row
from besidealone.grounds import answering_once, asking_same, calling_again, right_ground, telling_answers
from besidealone.grounds import telling_asks, telling_fails
from besidealone.likeness import are_alike
from besidealone.pairs import again_or_new, answering_apart, asking_apart, called_while_waiting, catching_inner
from besidealone.pairs import failing_apart, once_or_twice
from besidealone.programs import is_part, is_partner
from besidealone.relations import is_paper, paper
from besidealone.sides import has, raws_of
from besidealone.tables import export_of, faces, import_of, into_word, led, out_word, right_faces
from besidealone.tight import split, split_again, split_words, tight_faults

# Within how many STEPS the PARTNER of a BREAK, or of a LOSS, parts both PARTS.
STEPS = 2000


def parting(left, right, table, where, one, other, partner, most):
    """The PART, "one" or "other", with which a run says YES if the PARTNER parts both within so many STEPS, or None."""
    ends = [run_at(left, right, table, where, part, partner, most)[0] for part in (one, other)]
    return parted_by(ends[0], ends[1])


def parted_by(one, other):
    """The PART, "one" or "other", that runs with these ends part from the other one, or None."""
    if "on" in (one, other) or (one == "yes") == (other == "yes"):
        return None
    return "one" if one == "yes" else "other"


def run_at(left, right, table, where, part, partner, most):
    """How a run at a WHERE ends, and its CROSSINGS."""
    if where == "alone":
        return run_alone(left, table, part, partner, most)
    return run_beside(left, right, table, part, partner, most)[:2]


def parted_logs(left, right, table, where, parts, partner, most):
    """Two PARTS, the one with which a PARTNER says yes first, and the logs of their runs; () if they aren't parted."""
    runs = [run_at(left, right, table, where, part, partner, most) for part in parts]
    which = parted_by(runs[0][0], runs[1][0])
    if which is None:
        return ()
    order = (0, 1) if which == "one" else (1, 0)
    return ([parts[at] for at in order], [runs[at][1] for at in order])


def breaking(left, right, table, fault):
    """The BREAK for a FAULT."""
    if fault not in tight_faults(left, right, table):
        raise Nothing()
    (one, other), partner = broken(left, right, table, fault)
    return (one, other, partner, paper(left, right, table, "alone", one, other))


def broken(left, right, table, fault):
    """The PARTS and the PARTNER of the BREAK for a FAULT of the TABLE."""
    ground = right_ground(right, table)
    if fault[0] == "T1":
        return broken_out(left, right, table, ground, fault[1])
    if fault[0] == "T2":
        return broken_fails(left, right, table, ground)
    if fault[0] == "T3":
        return once_or_twice(left, table), answering_once(ground, table)
    if fault[0] == "T4":
        return called_while_waiting(left, table), calling_again(ground, table)
    return again_or_new(table), asking_same(ground, table)


def broken_out(left, right, table, ground, face):
    """The same where the out of a face leads ALIKE RAWS to unlike ones."""
    export = export_of(table, face)
    way = import_of(table, face)[1] if export is None else export[2]
    couple = split(left, right, way)
    ends = tuple([led(left, way, raw) for raw in couple])
    if export is None:
        return asking_apart(left, table, face, couple), telling_asks(ground, table, face, ends)
    return answering_apart(table, face, couple), telling_answers(ground, table, face, ends)


def broken_fails(left, right, table, ground):
    """The same for T2."""
    if not has(right, "catch"):
        return broken_again(left, right, table, ground)
    if not has(left, "catch"):
        return failing_apart(table, (raws_of(left, "word")[0], "")), telling_fails(ground, table, ())
    words = split_words(left, right, table)
    ends = tuple([out_word(left, table, word) for word in words])
    return failing_apart(table, words), telling_fails(ground, table, ends)


def broken_again(left, right, table, ground):
    """The same for T2 where no partner BESIDE catches: what comes through an INNER call tells both PARTS apart."""
    words = split_again(left, right, table)
    ends = [into_word(right, table, out_word(left, table, word)) for word in words]
    # The WORD by which calls of an INNER body FAIL must not be taken for the one that comes back.
    at = 1 if are_alike(left, "word", ends[0], table[2][4]) else 0
    couple = (words[at], words[1 - at])
    return catching_inner(left, table, ends[at], couple), calling_again(ground, table)


def is_break(left, right, table, thing):
    """Whether any value is a BREAK."""
    if not are_programs(left, table, right, right_faces(table), thing):
        return False
    one, other, partner, shown = thing
    if parting(left, right, table, "beside", one, other, partner, STEPS) != "one":
        return False
    return is_good_paper(left, right, table, "alone", one, other, shown)


def are_programs(left, table, side, told, thing):
    """Whether any value is a tuple of two PARTS, a PARTNER for a SIDE and its FACES, and something else."""
    if not is_row(4, thing) or not is_part(left, faces(table), thing[0]) or not is_part(left, faces(table), thing[1]):
        return False
    return is_partner(side, told, thing[2])


def is_good_paper(left, right, table, where, one, other, thing):
    """Whether any value is a PAPER for which is_paper raises nothing."""
    try:
        return is_paper(left, right, table, where, one, other, thing)
    except (Nothing, TooMany):
        return False
