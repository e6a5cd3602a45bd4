"""TERMS, which tell RAWS apart."""

from besidealone.forms import is_row
from besidealone.likeness import lots_of, rounds
from besidealone.sides import is_raw, operation, raws_of, result_of, rows_of

HOLE = ("hole",)


def measured(side, kind, thing):
    """What any value is as a TERM, or as a part of one without a hole.

    A tuple of the KIND that it gives and of how many holes stand in it, () if it is neither.
    """
    if thing == HOLE:
        return (kind, 1)
    if is_row(3, thing) and thing[0] == "raw" and is_raw(side, thing[1], thing[2]):
        return (thing[1], 0)
    if is_row(3, thing) and thing[0] == "do":
        return measured_do(side, kind, operation(side, thing[1]), thing[2])
    return ()


def measured_do(side, kind, row, terms):
    """What an operation, or None, with any value for its TERMS is, told as by measured."""
    if row is None or not is_row(len(row[1]), terms):
        return ()
    found = [measured(side, kind, part) for part in terms]
    if () in found or tuple([given for given, holes in found]) != row[1]:
        return ()
    return (row[2], sum([holes for given, holes in found]))


def is_term(side, kind, thing):
    """Whether any value is a TERM whose hole has this KIND."""
    found = measured(side, kind, thing)
    return found != () and found[1] == 1


def gives(side, kind, term):
    """The KIND that a TERM gives."""
    return measured(side, kind, term)[0]


def value_of(side, term, raw):
    """The value of a TERM for a RAW in the hole."""
    if term[0] == "hole":
        return raw
    if term[0] == "raw":
        return term[2]
    return result_of(side, term[1], tuple([value_of(side, part, raw) for part in term[2]]))


def filled(term, expression):
    """The EXPRESSION that is a TERM with this EXPRESSION in its hole."""
    if term[0] == "hole":
        return expression
    if term[0] == "raw":
        return term
    return ("do", term[1], tuple([filled(part, expression) for part in term[2]]))


def term(side, kind, one, other):
    """A TERM of least depth that tells two RAWS apart, None if they are ALIKE."""
    return least_term(side, rounds(side), kind, one, other)


def least_term(side, found, kind, one, other):
    """The same as term, from what rounds returns for the SIDE."""
    depth = 0
    while depth < len(found) and found[depth][kind, one] == found[depth][kind, other]:
        depth += 1
    if depth == len(found):
        return None
    if depth == 0:
        return HOLE
    name, raws, place = first_step(side, found[depth - 1], kind, one, other)
    row = operation(side, name)
    results = [result_of(side, name, with_raw(raws, place, raw)) for raw in (one, other)]
    outer = least_term(side, found, row[2], results[0], results[1])
    parts = [("raw", own, raw) for own, raw in zip(row[1], raws)]
    return filled(outer, ("do", name, with_raw(tuple(parts), place, HOLE)))


def first_step(side, marks, kind, one, other):
    """An operation, a row of RAWS, and a place in it where two RAWS make its results have unlike marks."""
    for name, takes, given, results in side[1]:
        for place in [at for at in range(len(takes)) if takes[at] == kind]:
            for row in [raws for raws in rows_of(side, takes) if raws[place] == one]:
                first = result_of(side, name, row)
                second = result_of(side, name, with_raw(row, place, other))
                if marks[given, first] != marks[given, second]:
                    return (name, row, place)
    return None


def with_raw(row, place, raw):
    """The row with this at the place."""
    return row[:place] + (raw,) + row[place + 1:]


def choice(side, kind, raw):
    """TERMS with their values that just the RAWS ALIKE to this one have."""
    found = rounds(side)
    chosen = []
    for lot in lots_of(found[-1], kind, raws_of(side, kind)):
        if raw not in lot and not is_ruled_out(side, chosen, lot[0]):
            one = least_term(side, found, kind, raw, lot[0])
            chosen.append((one, value_of(side, one, raw)))
    return tuple(chosen)


def is_ruled_out(side, chosen, raw):
    """Whether one of these TERMS has another value for a RAW than stands beside it."""
    return any([value_of(side, one, raw) != truth for one, truth in chosen])
