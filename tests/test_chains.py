"""Two TABLES in a row [35]."""

import collections
import itertools
import random
import unittest

from besidealone.beside import run_beside
from besidealone.chains import do_fit, lost_between, put_together
from besidealone.faithful import faithful_faults
from besidealone.sides import has, with_powers
from besidealone.sidetexts import read_side
from besidealone.tables import faces, is_level, is_passable, is_table, led, right_faces, with_modes
from besidealone.tabletexts import read_table
from besidealone.tight import tight_faults
from tests import make
from tests.cases import MODES, POWERS
from tests.helpers import asked

THING = ("thing",)


def behind(source, middle, right, one):
    """A TABLE that FITS behind one."""
    def way(begin, end, kind, refusing, is_begin):
        other = source.choice([own for own in dict((right if is_begin else end)[0]) if own != "word"])
        own = (kind, other) if not is_begin else (other, kind)
        raws = dict(end[0])[own[1]] + (("",) if refusing else ())
        return own + (tuple([source.choice(raws) for _ in dict(begin[0])[own[0]]]),)

    def into(kind):
        return THING if kind == "thing" else way(right, middle, kind, True, True)

    def out(kind):
        return THING if kind == "thing" else way(middle, right, kind, False, False)

    exports, imports = right_faces(one)
    mine, theirs = dict(middle[0])["word"], dict(right[0])["word"]
    back = dict(zip(mine, one[2][1]))
    out_words = tuple([source.choice(theirs) for _ in mine])
    left_words = [word for word in mine if back[word] == one[2][2]]
    if not left_words:
        return None
    words = (out_words, tuple([source.choice(mine) for _ in theirs]), source.choice(left_words), out_words[mine.index(one[2][3])],
             source.choice(mine))
    return (tuple([(name, into(takes), out(answers)) for name, takes, answers in exports]),
            tuple([(name, out(takes), into(answers)) for name, takes, answers in imports]), words,
            tuple([source.choice(both) for both in make.MODES]))


def chain(seed):
    """Three SIDES and two TABLES that FIT, both PASSABLE and LEVEL."""
    source = random.Random(seed)
    while True:
        at = source.randint(0, 10 ** 7)
        left, middle, right = [make.side(at + more, 3, 3, 3) for more in (0, 10 ** 8, 2 * 10 ** 8)]
        one = make.level_table(at, left, middle)
        other = behind(source, middle, right, one)
        if other and is_passable(other) and is_level(middle, right, other):
            return left, middle, right, one, other


class Chains(unittest.TestCase):

    def test_fit(self):
        for seed in range(150):
            left, middle, right, one, other = chain(seed)
            self.assertIs(asked(self, do_fit, left, middle, right, one, other), True)
            mine, theirs = dict(left[0])["word"], dict(right[0])["word"]
            back = dict(zip(dict(middle[0])["word"], one[2][1]))
            out = dict(zip(dict(middle[0])["word"], other[2][0]))
            for word in dict(middle[0])["word"]:
                changed = one[:2] + (one[2][:3] + (word,) + one[2][4:], one[3])
                self.assertIs(do_fit(left, middle, right, changed, other), out[word] == other[2][3])
                changed = other[:2] + (other[2][:2] + (word,) + other[2][3:], other[3])
                self.assertIs(do_fit(left, middle, right, one, changed), back[word] == one[2][2])
            for word in mine:
                changed = one[:2] + (one[2][:2] + (word,) + one[2][3:], one[3])
                self.assertIs(do_fit(left, middle, right, changed, other), word == one[2][2])
                changed = one[:2] + (one[2][:4] + (word,), one[3])
                self.assertIs(do_fit(left, middle, right, changed, other), True)
            for word in theirs:
                changed = other[:2] + (other[2][:3] + (word,) + other[2][4:], other[3])
                self.assertIs(do_fit(left, middle, right, one, changed), word == other[2][3])
            for face in range(len(other[0])):
                changed = (other[0][:face] + other[0][face + 1:],) + other[1:]
                self.assertIs(do_fit(left, middle, right, one, changed), False)
                row = other[0][face]
                changed = (other[0][:face] + ((row[0] + "z",) + row[1:],) + other[0][face + 1:],) + other[1:]
                self.assertIs(do_fit(left, middle, right, one, changed), False)

    def test_put_together(self):
        met = collections.Counter()
        for seed in range(300):
            left, middle, right, one, other = chain(seed)
            found = asked(self, put_together, left, middle, right, one, other)
            self.assertTrue(is_table(left, right, found))
            self.assertEqual((faces(found), right_faces(found)), (faces(one), right_faces(other)))
            for place in (0, 1):
                for first, second, row in zip(one[place], other[place], found[place]):
                    into, out = (1, 2) if place == 0 else (2, 1)
                    if row[out] == THING:
                        self.assertEqual((first[out], second[out]), (THING, THING))
                    else:
                        for raw, end in zip(dict(left[0])[row[out][0]], row[out][2]):
                            self.assertEqual(end, led(middle, second[out], led(left, first[out], raw)))
                    if row[into] == THING:
                        self.assertEqual((first[into], second[into]), (THING, THING))
                        continue
                    for raw, end in zip(dict(right[0])[row[into][0]], row[into][2]):
                        ahead = led(right, second[into], raw)
                        self.assertEqual(end, ahead and led(middle, first[into], ahead))
                        met[ahead == "", end == ""] += 1
            mine, ours, theirs = [dict(own[0])["word"] for own in (left, middle, right)]
            self.assertEqual(found[2][0], tuple([dict(zip(ours, other[2][0]))[word] for word in one[2][0]]))
            self.assertEqual(found[2][1], tuple([dict(zip(ours, one[2][1]))[word] for word in other[2][1]]))
            self.assertEqual(found[2][2:], (one[2][2], other[2][3], one[2][4]))
            good = ("crosses", "live", "let", "kept")
            for mode, first, second, own in zip(found[3], one[3], other[3], good):
                self.assertEqual(mode == own, first == own and second == own)
            self.assertTrue(is_level(left, right, found))
        self.assertGreater(min(met[True, True], met[False, True], met[False, False]), 20)
        self.assertEqual(met[True, False], 0)

    def check_lost(self, left, middle, right, one, other, met):
        """What may be lost between is just what the document says."""
        together = put_together(left, middle, right, one, other)
        faults = [(tight_faults(*told), faithful_faults(*told)) for told in (
            (left, middle, one), (middle, right, other), (left, right, together))]
        lost = asked(self, lost_between, left, middle, right, one, other)
        elder = sum(faults[0] + faults[1], ())
        self.assertEqual(lost, tuple(sorted([fault for fault in sum(faults[2], ()) if fault not in elder])))
        if not is_passable(together):
            return
        if not faults[0][0] and not faults[1][0]:
            met["tight"] += 1
            for fault in faults[2][0]:
                met[fault] += 1
                powers = {("T2",): ("catch",), ("T4",): ("again", "keep"), ("T5",): ("same", "keep")}[fault]
                self.assertFalse(any(has(middle, own) for own in powers))
                self.assertTrue(any(has(left, own) != has(right, own) for own in powers))
        if not faults[0][1] and not faults[1][1]:
            met["faithful"] += 1
            for fault in faults[2][1]:
                met[fault] += 1
                self.assertEqual(fault, ("F6",))
                self.assertEqual(one[1], ())
                self.assertFalse(has(middle, "keep"))

    def test_lost_between(self):
        met = collections.Counter()
        for seed in range(300):
            self.check_lost(*chain(seed), met)
        self.assertGreater(met["tight"], 30)

    PLAIN = "kind bit i o\nkind truth no yes\nkind word bad off\noperation on bit -> truth : yes no\noperation isbad word -> truth : yes no"
    TEXTS = ["export f\ninto bit bit i o\nout bit bit i o\nimport ask\nout bit bit i o\ninto bit bit i -\n",
             "export f\ninto thing\nout thing\nexport m\ninto bit bit i o\nout thing\n",
             "export f\ninto bit bit i o\nout thing\nimport ask\nout bit bit i o\ninto bit bit i o\n",
             "export m\ninto bit bit i o\nout thing\n"]
    WORDS = "words out bad off\nwords into bad off\nwords refused off bad bad\nmodes crosses live let kept"

    def test_all_powers_and_modes(self):
        side = read_side(self.PLAIN)
        met = collections.Counter()
        count = 0
        for text, mine, ours, theirs in itertools.product(self.TEXTS, POWERS, POWERS, POWERS):
            left, middle, right = [with_powers(side, powers) for powers in (mine, ours, theirs)]
            plain = read_table(side, side, text + self.WORDS)
            for modes in itertools.product(MODES, MODES):
                count += 1
                if count % 797 == 0:
                    self.check_lost(left, middle, right, *[with_modes(plain, own) for own in modes], met)
        self.assertGreater(min(met["tight"], met["faithful"]), 200)
        for fault in (("T4",), ("T5",), ("F6",)):
            self.assertGreater(met[fault], 1, fault)

    def test_what_is_lost(self):
        # What the middle can't ask for may be asked for again behind it.
        side = read_side(self.PLAIN)
        asking, given, coming, alone = [read_table(side, side, text + self.WORDS) for text in self.TEXTS]
        for table, mine, ours, theirs, want in (
                (asking, ("keep",), (), ("again",), (("T4",),)), (asking, ("keep",), ("again",), ("again",), ()),
                (coming, ("keep",), (), ("same",), (("T5",),)), (alone, ("keep",), (), ("same",), (("T5",),)),
                (alone, ("keep", "same"), ("same",), (), (("F6",),)), (alone, ("keep", "same"), ("keep", "same"), (), ()),
                (alone, ("same",), (), (), ()), (given, (), (), ("same",), ()), (given, (), ("same",), ("same",), ())):
            sides = [with_powers(side, powers) for powers in (mine, ours, theirs)]
            self.assertEqual(asked(self, lost_between, *sides, table, table), want)

    def test_words_that_are_lost(self):
        # No one of both TABLES leads ALIKE words out and in to unlike ones where that can be told.
        words = "kind truth no yes\nkind word bad deep off\noperation isdeep word -> truth : no yes no"
        left, middle = read_side(words + "\npowers catch"), read_side(words)
        right = read_side("kind truth no yes\nkind word x y z\noperation isx word -> truth : yes no no\npowers again")
        face = "export f\ninto truth truth no yes\nout truth truth no yes\nimport ask\nout truth truth no yes\ninto truth truth no yes\n"
        modes = "\nmodes crosses live let kept"
        one = read_table(left, middle, face + "words out bad deep off\nwords into bad deep bad\nwords refused bad bad bad" + modes)
        other = read_table(middle, right, face + "words out x y y\nwords into bad deep deep\nwords refused bad x bad" + modes)
        self.assertTrue(do_fit(left, middle, right, one, other))
        self.assertEqual(tight_faults(left, middle, one) + tight_faults(middle, right, other), ())
        self.assertEqual(lost_between(left, middle, right, one, other), (("T2",),))
        self.assertEqual(lost_between(left, with_powers(middle, ("catch",)), right, one, other), ())

    def test_runs_beside_what_is_put_together(self):
        # A run beside both at once: what crosses is led over twice.
        met = collections.Counter()
        for seed in range(120):
            left, middle, right, one, other = chain(seed)
            whole = put_together(left, middle, right, one, other)
            part = make.lively_part(seed, left, faces(one))
            for at in range(3):
                partner = make.lively_partner(seed * 3 + at, right, right_faces(whole))
                end, log, seen = run_beside(left, right, whole, part, partner, 300)
                met[end] += 1
                self.check_crossings(left, middle, right, one, other, log, seen)
        self.assertGreater(len(met), 4)

    def check_crossings(self, left, middle, right, one, other, log, seen):
        """Each answer, as the partner gets it, is what both outs lead to."""
        told = [item for item in log if item[0] == "answer"]
        got = [item for item in seen if item[0] == "answer"]
        calls = []
        faces_of_answers = []
        for item in log:
            if item[0] == "call":
                calls.append(item[1])
            elif item[0] in ("answer", "gave", "fails"):
                name = calls.pop()
                if item[0] == "answer":
                    faces_of_answers.append(name)
        for name, mine, theirs in zip(faces_of_answers, told, got):
            first = [row for row in one[0] if row[0] == name][0]
            second = [row for row in other[0] if row[0] == name][0]
            self.assertEqual(theirs[1], led(middle, second[2], led(left, first[2], mine[1])))


if __name__ == "__main__":
    unittest.main()
