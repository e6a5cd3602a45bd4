"""Breaks [28] and losses [30]."""

import collections
import itertools
import unittest

from besidealone.alone import run_alone
from besidealone.beside import run_beside
from besidealone.breaks import breaking, is_break, parting
from besidealone.errors import Nothing, TooMany
from besidealone.faithful import faithful_faults
from besidealone.likeness import are_alike, classes
from besidealone.losses import is_loss, losing
from besidealone.programs import powers_of, size_of
from besidealone.programtexts import read_part, read_partner
from besidealone.relations import is_paper, paper
from besidealone.sides import with_powers
from besidealone.tables import faces, into_word, out_word, right_faces, with_modes
from besidealone.tight import tight_faults
from tests import make, reference, reference_runs
from tests.cases import CASES, all_of
from tests.helpers import ANY, asked, changed
from tests.reference_faults import Faults

FAULTS = [("T1", "f"), ("T1", "ask"), ("T1",), ("T2",), ("T3",), ("T4",), ("T5",), ("T6",), ("F1", "f"), ("F1", "ask"), ("F1",),
          ("F2", "f"), ("F2", "ask"), ("F3",), ("F4",), ("F5",), ("F6",)]
SORTS = {"beside": (breaking, is_break, tight_faults, "alone"), "alone": (losing, is_loss, faithful_faults, "beside")}


class Shown(unittest.TestCase):
    """What breaking and losing return; where tells where the PARTNER parts both PARTS."""

    def run_at(self, left, right, table, where, part, partner, most):
        if where == "alone":
            found = run_alone(left, table, part, partner, most)
            self.assertEqual(found, reference_runs.alone(left, table, part, partner, most))
        else:
            found = run_beside(left, right, table, part, partner, most)
            self.assertEqual(found, reference_runs.beside(left, right, table, part, partner, most))
        return found[0]

    def check(self, left, right, table, where, fault, thorough):
        """Checks what is told for a FAULT; returns it."""
        find, is_it, _, there = SORTS[where]
        told = asked(self, find, left, right, table, fault)
        one, other, partner, shown = told
        for part in (one, other):
            self.assertTrue(reference.part_ok(left, faces(table), part))
        side, own = (left, faces(table)) if where == "alone" else (right, right_faces(table))
        self.assertTrue(reference.partner_ok(side, own, partner))
        ends = [self.run_at(left, right, table, where, part, partner, 2000) for part in (one, other)]
        self.assertEqual([end == "yes" for end in ends], [True, False], (fault, told))
        self.assertNotIn("on", ends)
        self.assertEqual(asked(self, parting, left, right, table, where, one, other, partner, 2000), "one")
        self.assertEqual(parting(left, right, table, where, other, one, partner, 2000), "other")
        self.assertEqual(shown, paper(left, right, table, there, one, other))
        self.assertIs(is_paper(left, right, table, there, one, other, shown), True)
        self.assertIs(asked(self, is_it, left, right, table, told), True)
        self.assertLess(size_of(one) + size_of(other) + size_of(partner), 80)
        if thorough:
            self.check_thoroughly(left, right, table, where, told)
        return told

    def check_thoroughly(self, left, right, table, where, told):
        """Values like the told one are judged, and no PARTNER at the other place parts both PARTS."""
        _, is_it, _, there = SORTS[where]
        one, other, partner, shown = told
        for thing in ((other, one, partner, shown), (one, one, partner, shown), (other, other, partner, shown), told[:3], told + ((),),
                      list(told), (one, other, partner, None), (one, other, partner, ((), shown[1])), (one, other, None, shown),
                      (one, other, partner, shown[:1]), (one, other, one, shown), (None, other, partner, shown), (one, (), partner, shown),
                      (one, other, ((), ((), ()), partner[2]), shown), (one, other, partner, (shown[0] * 2, shown[1]))):
            self.assertIs(asked(self, is_it, left, right, table, thing), False)
        for at, lot in enumerate(shown):
            for place in range(len(lot)):
                less = lot[:place] + lot[place + 1:]
                less = (less, shown[1]) if at == 0 else (shown[0], less)
                self.assertIs(is_it(left, right, table, (one, other, partner, less)), False)
        content = ("truth", "yes")
        more = (shown[0], tuple(sorted(set(shown[1] + ((content, content),)))))
        self.assertIs(is_it(left, right, table, (one, other, partner, more)), is_paper(left, right, table, there, one, other, more))
        side, own = (left, faces(table)) if there == "alone" else (right, right_faces(table))
        for seed in range(4):
            tried = make.lively_partner(seed, side, own)
            ends = [self.run_at(left, right, table, there, part, tried, 300) for part in (one, other)]
            self.assertTrue("on" in ends or (ends[0] == "yes") == (ends[1] == "yes"))

    def check_all(self, left, right, table, thorough):
        """All FAULTS of a TABLE, and all sentences that hold; returns the FAULTS."""
        found = []
        for where, (find, _, faults, _) in SORTS.items():
            told = faults(left, right, table)
            for fault in FAULTS:
                if fault not in told:
                    with self.assertRaises(Nothing):
                        find(left, right, table, fault)
            if where == "alone" and not Faults(left, right, table).even():
                continue
            for fault in told:
                self.check(left, right, table, where, fault, thorough)
            found += [(fault[0], fault[1:] != () and fault[1] in [row[0] for row in table[1]]) for fault in told]
        return found

    def test_cases(self):
        met = collections.Counter()
        for at, name in enumerate(CASES):
            for number, (left, right, table) in enumerate(all_of(name, 41, at)):
                met.update(self.check_all(left, right, table, number % 16 == 0))
        for fault in ("T1", "F1", "F2"):
            self.assertGreater(met[fault, False], 30)
            self.assertGreater(met[fault, True], 30)
        for fault in ("T2", "T3", "T4", "T5", "F3", "F4", "F5", "F6"):
            self.assertGreater(met[fault, False], 20, fault)

    def test_each_way_in_which_t2_fails(self):
        for name, mine, theirs, want in (
                ("an import", (), ("catch",), ()), ("raws split", ("catch",), ("catch",), ()),
                ("words that come back unlike", ("catch",), ("again",), ("again",)),
                ("the same, inner among those", ("catch", "keep"), ("again", "keep"), ("again",)),
                ("the same, inner among those", ("again", "catch", "keep", "same"), ("again", "keep"), ("again",))):
            left, right, table = CASES[name]
            left, right = with_powers(left, mine), with_powers(right, theirs)
            self.assertIn(("T2",), tight_faults(left, right, table))
            told = self.check(left, right, table, "beside", ("T2",), True)
            self.assertEqual(powers_of(told[2]), want or ("catch",))

    def test_each_way_in_which_f3_fails(self):
        for name, theirs, modes in (("no import", (), "crosses"), ("no import", ("catch",), "stops"),
                                    ("words that come back unlike", ("catch",), "crosses"), ("an import", ("again", "catch", "keep"), "crosses"),
                                    ("one raw, things", ("again", "catch"), "crosses")):
            for mine in (("catch",), ("again", "catch", "keep", "same")):
                left, right, table = CASES[name]
                left, right = with_powers(left, mine), with_powers(right, theirs)
                table = with_modes(table, (modes,) + table[3][1:])
                if ("F3",) in faithful_faults(left, right, table):
                    self.check(left, right, table, "alone", ("F3",), True)
                else:
                    self.assertEqual(name, "one raw, things")

    def test_a_word_that_only_inner_bodies_meet(self):
        # The WORD inner is the only one of its CLASS: no import FAILS by it, but calls of an INNER body do.
        left, right, table = CASES["an import"]
        words = ((table[2][0][0], "much", "much"), ("bad", "bad"), "bad", "lost", "deep")
        left = (left[0], tuple([row for row in left[1] if row[0] != "isbad"]), ("again", "catch", "keep"))
        for theirs in (("again", "catch"), ("again", "catch", "keep")):
            table = (table[0], table[1], (("lost", "much", "lost"),) + words[1:], table[3])
            own = with_powers(right, theirs)
            self.assertIn(("F3",), faithful_faults(left, own, table))
            self.check(left, own, table, "alone", ("F3",), True)

    def test_f5_where_nobody_catches_on_the_left(self):
        left, right, table = CASES["an import"]
        left, right = with_powers(left, ("again", "keep")), with_powers(right, ("catch", "keep"))
        self.assertIn(("F5",), faithful_faults(left, right, table))
        self.check(left, right, table, "alone", ("F5",), True)

    def test_random_tables(self):
        for seed in range(120):
            left, right = make.side(seed, 4), make.side(seed + 5000, 4)
            self.check_all(left, right, make.level_table(seed, left, right, 3, 3), seed % 4 == 0)

    def test_parts_and_partners_of_values(self):
        left, right, table = CASES["one raw"]
        left, right = with_powers(left, ()), with_powers(right, ("keep",))
        told = breaking(left, right, table, ("T3",))
        for thing in ANY:
            self.assertIs(asked(self, is_break, left, right, table, thing), False)
            self.assertIs(asked(self, is_loss, left, right, table, thing), False)
        good = 0
        for thing in changed(told):
            want = False
            if type(thing) is tuple and len(thing) == 4:
                one, other, partner, shown = thing
                if (reference.part_ok(left, faces(table), one) and reference.part_ok(left, faces(table), other)
                        and reference.partner_ok(right, right_faces(table), partner)):
                    ends = [reference_runs.beside(left, right, table, part, partner, 2000)[0] for part in (one, other)]
                    want = ends[0] == "yes" != ends[1] and "on" not in ends and shown == paper(left, right, table, "alone", one, other)
            self.assertIs(is_break(left, right, table, thing), want)
            good += want
        self.assertGreater(good, 1)


class Parting(unittest.TestCase):

    BITS = (("bit", ("i", "o")), ("truth", ("no", "yes")), ("word", ("bad",)))
    SIDE = (BITS, (("on", ("bit",), "truth", ("yes", "no")),), ("keep", "same"))
    WAY = ("bit", "bit", ("i", "o"))
    TURN = ("bit", "bit", ("o", "i"))
    TABLE = ((("f", WAY, TURN),), (), (("bad",), ("bad",), "bad", "bad", "bad"), ("crosses", "live", "let", "kept"))

    def part(self, *rows):
        return read_part(self.SIDE, faces(self.TABLE), "\n".join(["body f", "var x bit"] + list(rows) + ["end"]))

    def parting(self, where, one, other, rows, most):
        partner = read_partner(self.SIDE, faces(self.TABLE), "\n".join(["main", "var y bit"] + rows + ["end"]))
        return asked(self, parting, self.SIDE, self.SIDE, self.TABLE, where, one, other, partner, most)

    ASK = ["call y f bit.i", "if !on y", "say yes", "else", "end"]

    def test_one_and_other(self):
        echo, turn = self.part("answer given"), self.part("if !on given", "answer bit.o", "else", "answer bit.i", "end")
        self.assertEqual(self.parting("alone", echo, turn, self.ASK, 50), "one")
        self.assertEqual(self.parting("alone", turn, echo, self.ASK, 50), "other")
        self.assertEqual(self.parting("beside", echo, turn, self.ASK, 50), "other")
        self.assertIsNone(self.parting("alone", echo, echo, self.ASK, 50))
        self.assertIsNone(self.parting("alone", echo, turn, ["call y f bit.i", "say no"], 50))
        # It says yes with both.
        self.assertIsNone(self.parting("alone", echo, turn, ["call y f bit.i", "say yes"], 50))

    def test_other_ends(self):
        echo = self.part("answer given")
        for rows, steps in (([], 4), (["fail word.bad"], 4), (["while truth.yes", "end"], 4), (["answer bit.o"], 4)):
            self.assertEqual(self.parting("alone", echo, self.part(*rows), self.ASK, 50), "one")
            self.assertEqual(self.parting("alone", echo, self.part(*rows), self.ASK, steps), "one")
            self.assertIsNone(self.parting("alone", echo, self.part(*rows), self.ASK, steps - 1))

    def test_one_that_is_still_on(self):
        echo, long = self.part("answer given"), self.part("let x bit.i", "let x bit.o", "answer x")
        for most, want in ((3, None), (4, None), (5, "one"), (9, "one")):
            self.assertEqual(self.parting("alone", echo, long, self.ASK, most), want)
            self.assertEqual(self.parting("alone", long, echo, self.ASK, most), want and "other")
        # What never ends, and never comes round, is on for ever.
        calling = ["call y f bit.i", "if !on y", "say yes", "else", "while truth.yes", "call y f y", "end", "end"]
        self.assertIsNone(self.parting("alone", echo, self.part("answer bit.o"), calling, 3000))


def is_even(left, right, table):
    """Whether a TABLE is EVEN, by the CLASSES that the package tells."""
    out = {word: out_word(left, table, word) for word in dict(left[0])["word"]}
    led = {word: out[into_word(right, table, word)] for word in dict(right[0])["word"]}
    return all(are_alike(right, "word", led[one], led[other]) for lot in classes(right, "word") for one in lot for other in lot)


class Many(unittest.TestCase):

    def raising(self, told, error, left, right, table, where, is_it):
        """One PART more in the place of the first one makes is_paper raise; so it is no BREAK, and no LOSS."""
        one, other, partner, shown = told
        self.assertEqual(parting(left, right, table, where, one, other, partner, 2000), "one")
        with self.assertRaises(error):
            is_paper(left, right, table, SORTS[where][3], one, other, shown)
        self.assertIs(asked(self, is_it, left, right, table, told), False)

    def test_what_is_paper_raises_is_no_break_and_no_loss(self):
        for name, where, powers, fault in (("raws split", "beside", ("keep", "same"), ("T1", "f")),
                                           ("raws joined, classes missed", "alone", ("keep", "same"), ("F1", "g"))):
            left, right, table = CASES[name]
            left = with_powers(left, powers)
            find, is_it, _, _ = SORTS[where]
            one, other, partner, shown = find(left, right, table, fault)
            self.assertIs(is_it(left, right, table, (one, other, partner, shown)), True)
            at = [row[0] for row in table[0]].index(fault[1])
            names, statements = one[1][at]
            thing = ("name", "t")

            def exchanged(cells, rows):
                return cells, one[1][:at] + ((names, rows),) + one[1][at + 1:]

            asking = exchanged((), statements + (("if", ("same", thing, thing), (), ()),))
            self.raising((asking, other, partner, shown), Nothing, left, right, table, where, is_it)
            many = tuple("c" + letter for letter in "abcdefghijkl")
            count = ()
            for cell in many[::-1]:
                count = (("if", ("cell", cell), (("put", cell, ("raw", "truth", "no")),) + count, (("put", cell, ("raw", "truth", "yes")),)),)
            cells = tuple([(cell, "truth", "no") for cell in many])
            counting = exchanged(cells, count + statements)
            whole = tuple([(row, ()) for row in itertools.product(("no", "yes"), repeat=12)])
            self.raising((counting, other, partner, (whole, ())), TooMany, left, right, table, where, is_it)

    def test_at_the_bounds(self):
        powers = (("again", "catch", "keep", "same"), (), ("catch",), ("again", "keep"))
        met = 0
        for seed in range(12):
            left, right = make.full_side(seed), make.full_side(seed + 100)
            kinds = left[0], right[0]
            if seed % 2:
                tells = [tuple([("is" + kind, (kind,), "truth", ("yes",) + ("no",) * (len(raws) - 1)) for kind, raws in own]) for own in kinds]
                left, right = (kinds[0], tells[0], ()), (kinds[1], tells[1], ())
            left, right = with_powers(left, powers[seed % 4]), with_powers(right, powers[seed // 4])
            rows = [("e" + name, ("thing",) if name == "d" else ("aa", "bb", (dict(kinds[0])["bb"][seed % 8],) * 8),
                     ("thing",) if name == "a" else ("bb", "aa", dict(kinds[1])["aa"])) for name in "abcd"]
            imports = [("i" + name, ("cc", "cc", dict(kinds[1])["cc"]), ("bb", "cc", (dict(kinds[0])["cc"][seed % 8],) * 8)) for name in "abc"]
            mine, theirs = dict(kinds[0])["word"], dict(kinds[1])["word"]
            table = (tuple(rows), tuple(imports), (theirs, (mine[0],) * 8, mine[1], theirs[1], mine[2]), ("crosses", "live", "let", "kept"))
            for modes in (table[3], ("stops", "tabled", "barred", "fresh"), ("crosses", "tabled", "let", "kept")):
                own = with_modes(table, modes)
                for fault in tight_faults(left, right, own):
                    self.assertIs(is_break(left, right, own, breaking(left, right, own, fault)), True)
                    met += 1
                if is_even(left, right, own):
                    for fault in faithful_faults(left, right, own):
                        self.assertIs(is_loss(left, right, own, losing(left, right, own, fault)), True)
                        met += 1
        self.assertGreater(met, 100)


if __name__ == "__main__":
    unittest.main()
