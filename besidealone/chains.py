"""Two TABLES in a row: one between left and middle, other one between middle and right."""

from besidealone.faithful import faithful_faults
from besidealone.tables import MODES, THING, faces, into_word, led, out_word, right_faces
from besidealone.tight import tight_faults


def do_fit(left, middle, right, one, other):
    """Whether two TABLES FIT."""
    if right_faces(one) != faces(other) or out_word(middle, other, one[2][3]) != other[2][3]:
        return False
    return into_word(middle, one, other[2][2]) == one[2][2]


def put_together(left, middle, right, one, other):
    """The TABLE between left and right that two TABLES that FIT come to."""
    exports = []
    for (name, into, out), (_, into_behind, out_behind) in zip(one[0], other[0]):
        exports.append((name, joined_way(middle, into_behind, into), joined_way(middle, out, out_behind)))
    imports = []
    for (name, out, into), (_, out_behind, into_behind) in zip(one[1], other[1]):
        imports.append((name, joined_way(middle, out, out_behind), joined_way(middle, into_behind, into)))
    out_words = tuple([out_word(middle, other, word) for word in one[2][0]])
    into_words = tuple([into_word(middle, one, word) for word in other[2][1]])
    words = (out_words, into_words, one[2][2], other[2][3], one[2][4])
    modes = [both[0] if mode == again == both[0] else both[1] for mode, again, both in zip(one[3], other[3], MODES)]
    return (tuple(exports), tuple(imports), words, tuple(modes))


def joined_way(middle, first, second):
    """The WAY that leads to where a second one leads what a first one leads to; a thing stays."""
    if first == THING:
        return THING
    raws = ["" if raw == "" else led(middle, second, raw) for raw in first[2]]
    return (first[0], second[1], tuple(raws))


def lost_between(left, middle, right, one, other):
    """The FAULTS that what is put together has, and neither of both TABLES has."""
    elder = faults_of(left, middle, one) + faults_of(middle, right, other)
    found = faults_of(left, right, put_together(left, middle, right, one, other))
    return tuple(sorted([fault for fault in found if fault not in elder]))


def faults_of(left, right, table):
    """All FAULTS of a TABLE."""
    return tight_faults(left, right, table) + faithful_faults(left, right, table)
