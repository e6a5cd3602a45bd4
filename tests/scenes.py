"""SIDES, PASSABLE and LEVEL TABLES, and couples of PARTS, out of told seeds."""

import random

from besidealone.programs import is_part
from besidealone.tables import faces
from tests import make
from tests.cases import CASES

THING = ("thing",)


def has_things(table):
    return any(THING in row[1:] for row in table[0])


def tables(seed, plain=False):
    """Two SIDES and a TABLE; if plain, none of its faces takes or answers a thing."""
    source = random.Random(seed)
    while True:
        if source.random() < 0.65:
            left, right, table = CASES[source.choice(sorted(CASES))]
            left, right = [side[:2] + (tuple([power for power in make.POWERS if source.random() < 0.6]),) for side in (left, right)]
            table = table[:3] + (tuple([source.choice(both) for both in make.MODES]),)
        else:
            at = source.randint(0, 10 ** 6)
            left, right = make.side(at, 4), make.side(at + 5000000, 4)
            table = make.level_table(at, left, right, 2, 2)
        if not plain or not has_things(table):
            return left, right, table


def parts(seed, left, table, sort="part"):
    """Two PARTS, which are often alike but for one thing; no same stands in them if the sort is plain."""
    source = random.Random(seed)
    told = faces(table)
    at = seed * 10
    while True:
        at += 1
        one = make.lively_part(at, left, told, sort)
        other = make.varied(at, left, one) if source.random() < 0.6 else make.lively_part(at + 7 * 10 ** 6, left, told, sort)
        if is_part(left, told, other):
            return one, other


def partner(seed, side, told):
    """A PARTNER that makes something happen."""
    if seed % 2 or any("thing" in row for row in told[0]):
        return make.lively_partner(seed, side, told)
    return make.aimed_partner(seed, side, told)


def full(seed, plain=False):
    """Two SIDES at the bounds and a TABLE with 4 exports and 3 imports, all of whose sentences hold but for powers and modes."""
    source = random.Random(seed)
    side = make.full_side(seed)
    raws = dict(side[0])

    def same(kind):
        return (kind, kind, raws[kind])

    exports = [("ea", same("aa"), same("bb")), ("eb", same("bb"), THING), ("ec", THING, same("cc")), ("ed", THING, THING)]
    if plain:
        exports = [("ea", same("aa"), same("bb")), ("eb", same("bb"), same("aa")), ("ec", same("truth"), same("cc")), ("ed", same("cc"), same("cc"))]
    imports = [("ia", same("aa"), same("bb")), ("ib", same("bb"), same("cc")), ("ic", same("cc"), same("aa"))]
    words = (raws["word"], raws["word"], raws["word"][0], raws["word"][1], raws["word"][2])
    left, right = [side[:2] + (tuple([power for power in make.POWERS if source.random() < 0.6]),) for _ in range(2)]
    return left, right, (tuple(exports), tuple(imports), words, tuple([source.choice(both) for both in make.MODES]))
