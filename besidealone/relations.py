"""Papers of likeness: they show that no partner ALONE, or BESIDE, tells two PARTS apart."""

from besidealone.choices import Choices
from besidealone.errors import Nothing
from besidealone.forms import is_ascending, is_row
from besidealone.movers import Mover
from besidealone.programs import powers_of
from besidealone.sides import is_raw
from besidealone.sights import Sight
from besidealone.walks import Tokens, Walk


def paper(left, right, table, where, one, other):
    """The PAPER with the fewest states and tokens, None if there is none."""
    return looked_for(left, right, table, where, one, other)[0]


def looked_for(left, right, table, where, one, other):
    """The same, with the Walk, or the Choices, that it comes from, or that tells where there is none."""
    sight, movers, first = set_beside(left, right, table, where, one, other)
    tokens = Tokens((), False)
    if remembers(sight, one, other):
        walk = Walk(sight, movers, tokens, (first,), False)
        return ((tuple(sorted(walk.states)), tuple(sorted(tokens.known))) if walk.holds() else None, walk)
    choices = Choices(sight, movers, tokens)
    return (((first,), tuple(sorted(tokens.known))) if choices.holds() else None, choices)


def is_paper(left, right, table, where, one, other, thing):
    """Whether any value is a PAPER."""
    sight, movers, first = set_beside(left, right, table, where, one, other)
    if not is_row(2, thing) or not are_states(left, (one[0], other[0]), thing[0]) or first not in thing[0]:
        return False
    if not are_tokens(left, thing[1]):
        return False
    tokens = Tokens(thing[1], True)
    if remembers(sight, one, other):
        return Walk(sight, movers, tokens, thing[0], True).holds()
    return Choices(sight, movers, tokens).holds()


def set_beside(left, right, table, where, one, other):
    """What a partner at a WHERE SEES, two PARTS ready to be led on, and the couple of their first states."""
    if "same" in powers_of(one) or "same" in powers_of(other):
        raise Nothing()
    sight = Sight(left, right, table, where)
    movers = [Mover(left, sight.faces[0], part, sight.inner, sight.tells_things) for part in (one, other)]
    return sight, movers, (movers[0].first_state(), movers[1].first_state())


def remembers(sight, one, other):
    """Whether the partner is taken to REMEMBER."""
    return sight.remembers or one[0] != () or other[0] != ()


def are_states(left, cells, thing):
    """Whether any value is an ascending tuple of couples of states, cells being those of both PARTS."""
    if not isinstance(thing, tuple) or not all([is_row(2, couple) for couple in thing]):
        return False
    for couple in thing:
        if not is_state(left, cells[0], couple[0]) or not is_state(left, cells[1], couple[1]):
            return False
    return is_ascending(thing)


def is_state(left, cells, thing):
    """Whether any value is a state of a PART with these cells."""
    if not is_row(len(cells), thing):
        return False
    return all([is_value(left, cell[1], value) for cell, value in zip(cells, thing)])


def is_value(left, kind, thing):
    """Whether any value is what a cell of this KIND, or of things, may have."""
    if kind == "thing":
        return thing == () or is_content(left, thing)
    return is_raw(left, kind, thing)


def is_content(left, thing):
    """Whether any value is a content of a thing."""
    return is_row(2, thing) and is_raw(left, thing[0], thing[1])


def are_tokens(left, thing):
    """Whether any value is an ascending tuple of couples of contents."""
    if not isinstance(thing, tuple) or not all([is_row(2, couple) for couple in thing]):
        return False
    if not all([is_content(left, content) for couple in thing for content in couple]):
        return False
    return is_ascending(thing)
