"""SIDES and TABLES for the tests of what is gained and lost: PASSABLE, LEVEL ones."""

import itertools

from besidealone.sides import with_powers
from besidealone.sidetexts import read_side
from besidealone.tables import is_level, is_passable, is_table, with_modes
from besidealone.tabletexts import read_table
from tests import make

MODES = list(itertools.product(("crosses", "stops"), ("live", "tabled"), ("let", "barred"), ("kept", "fresh")))
POWERS = [powers for many in range(5) for powers in itertools.combinations(make.POWERS, many)]
MODE_LINE = "modes crosses live let kept"

PLAIN = ("kind bit i o\nkind truth no yes\nkind word bad deep off\noperation on bit -> truth : yes no\n"
         "operation isbad word -> truth : yes no no\noperation isdeep word -> truth : no yes no")
BLIND = "kind bit i o\nkind truth no yes\nkind word bad deep off"
ONE = "kind bit i\nkind truth no yes\nkind word bad"
RIGHT = ("kind num a b c\nkind truth no yes\nkind word lost much\noperation isa num -> truth : yes no no\n"
         "operation ismuch word -> truth : no yes")
DULL = "kind num a b c\nkind truth no yes\nkind word lost much"
TOLD = [
    # The name, both SIDES, and the TABLE but for its modes.
    ("no import", PLAIN, RIGHT, """export f
into num bit i o o
out bit num a b
words out lost much much
words into bad off
words refused bad lost deep"""),
    ("an import", PLAIN, RIGHT, """export f
into num bit i o o
out bit num a b
import ask
out bit num a b
into num bit o i i
words out lost much lost
words into bad deep
words refused off lost deep"""),
    ("words all met", PLAIN, RIGHT, """export f
into num bit i o o
out bit num a b
import ask
out bit num a b
into num bit o - -
words out lost much lost
words into bad deep
words refused off lost bad"""),
    ("raws joined, classes missed", PLAIN, RIGHT, """export f
into num bit o o o
out bit num b c
export g
into truth truth no -
out truth truth no no
import ask
out bit num a a
into truth bit i i
import beg
out truth truth no yes
into num truth no - -
words out much much much
words into off bad
words refused bad much off"""),
    ("raws split", BLIND, RIGHT, """export f
into num bit i o o
out bit num a b
export g
into truth truth no yes
out bit truth no yes
import ask
out bit num c a
into num bit o i i
words out lost much lost
words into bad deep
words refused off lost deep"""),
    ("words that come back unlike", "kind bit i o\nkind truth no yes\nkind word bad deep off\noperation on bit -> truth : yes no\n"
     "operation isoff word -> truth : no no yes", RIGHT, """export f
into num bit i o o
out bit num a b
import ask
out bit num a b
into num bit o i i
words out lost much lost
words into bad off
words refused off lost deep"""),
    ("the same, inner among those", "kind bit i o\nkind truth no yes\nkind word bad deep off\noperation on bit -> truth : yes no\n"
     "operation isoff word -> truth : no no yes", RIGHT, """export f
into num bit i o o
out thing
import ask
out bit num a b
into num bit o - -
words out lost much lost
words into bad off
words refused off lost off"""),
    ("alike on the right", PLAIN, DULL, """export f
into num bit o o o
out bit num b c
import ask
out truth truth no yes
into num bit i i i
words out much lost much
words into deep deep
words refused deep much off"""),
    ("things", PLAIN, RIGHT, """export give
into thing
out thing
export look
into thing
out bit num a a
export new
into num bit i o o
out thing
import ask
out bit num a b
into num bit o i i
words out lost much much
words into bad deep
words refused off lost deep"""),
    ("things that only come", PLAIN, RIGHT, """export make
into truth bit i -
out thing
import ask
out truth truth no yes
into truth truth no no
words out much much lost
words into deep bad
words refused off lost bad"""),
    ("things that only come, nothing live", BLIND, DULL, """export make
into num bit i i i
out thing
export nook
into num bit o o o
out bit truth no yes
words out much much lost
words into deep deep
words refused off lost bad"""),
    ("one raw", ONE, ONE, """export f
into bit bit i
out bit bit i
import ask
out bit bit i
into bit bit i
words out bad
words into bad
words refused bad bad bad"""),
    ("one raw, things", ONE, RIGHT, """export f
into truth bit i i
out thing
export g
into thing
out bit num c
import ask
out bit num b
into num bit - i i
words out much
words into bad bad
words refused bad lost bad"""),
]


def case(text_left, text_right, text_table):
    left, right = read_side(text_left), read_side(text_right)
    table = read_table(left, right, text_table + "\n" + MODE_LINE)
    assert is_table(left, right, table) and is_passable(table) and is_level(left, right, table), text_table
    return left, right, table


CASES = {name: case(*texts) for name, *texts in TOLD}


def all_of(name, step=1, begin=0):
    """The SIDES and the TABLE of a case with each lot of powers on either SIDE and all modes, or each so many-th."""
    left, right, table = CASES[name]
    for at, (mine, theirs, modes) in enumerate(itertools.product(POWERS, POWERS, MODES)):
        if at % step == begin % step:
            yield with_powers(left, mine), with_powers(right, theirs), with_modes(table, modes)
