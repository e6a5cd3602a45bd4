"""What is led over [32]."""

import collections
import unittest

from besidealone.alone import run_alone
from besidealone.beside import run_beside
from besidealone.breaks import parting
from besidealone.errors import Nothing, NotRight
from besidealone.faithful import faithful_faults
from besidealone.over import led_over
from besidealone.programtexts import read_part, read_partner
from besidealone.tables import faces, right_faces, with_modes
from besidealone.tight import tight_faults
from tests import make, reference, reference_runs, scenes
from tests.helpers import asked

ALL = ("again", "catch", "keep", "same")
KINDS = (("bit", ("i", "o")), ("truth", ("no", "yes")), ("word", ("bad", "deep", "off")))
TELLS = (("isbad", ("word",), "truth", ("yes", "no", "no")), ("isdeep", ("word",), "truth", ("no", "yes", "no")),
         ("on", ("bit",), "truth", ("yes", "no")))
NUMS = (("num", ("a", "b", "c", "d")), ("truth", ("no", "yes")), ("word", ("lost", "much", "none")))
NUM_TELLS = (("isa", ("num",), "truth", ("yes", "no", "no", "no")), ("isc", ("num",), "truth", ("no", "no", "yes", "no")),
             ("islost", ("word",), "truth", ("yes", "no", "no")), ("ismuch", ("word",), "truth", ("no", "yes", "no")))
OUT, INTO = ("bit", "num", ("a", "c")), ("num", "bit", ("i", "o", "", "o"))
WORDS = (("lost", "much", "none"), ("bad", "deep", "off"), "off", "none", "deep")
MODES = ("crosses", "live", "let", "kept")
TABLE = ((("f", ("num", "bit", ("i", "o", "o", "o")), OUT),), (("ask", OUT, ("num", "bit", ("o", "i", "i", "i"))),), WORDS, MODES)


def left_side(*powers):
    return (KINDS, TELLS, powers)


def right_side(*powers):
    return (NUMS, NUM_TELLS, powers)


class LedOver(unittest.TestCase):

    def check(self, left, right, table, one, other, partner, most):
        """What is led over PARTS the PARTS BESIDE with the same one; returns which one."""
        which = parting(left, right, table, "alone", one, other, partner, most)
        if which is None:
            with self.assertRaises(Nothing):
                led_over(left, right, table, one, other, partner, most)
            return None
        found = asked(self, led_over, left, right, table, one, other, partner, most)
        self.assertTrue(reference.partner_ok(right, right_faces(table), found))
        self.assertEqual(parting(left, right, table, "beside", one, other, found, 200000), which)
        for part in (one, other):
            self.assertEqual(run_beside(left, right, table, part, found, 3000), reference_runs.beside(left, right, table, part, found, 3000))
        return which

    def test_many(self):
        met = collections.Counter()
        for seed in range(3600):
            left, right, table = scenes.tables(seed)
            if seed % 3:
                # Then more TABLES are faithful.
                right = right[:2] + (tuple([power for power in ALL if power in right[2] or power in ("again", "catch")]),)
                left = left[:2] + (tuple([power for power in right[2] if power in left[2] or power == "again"]),)
                table = table[:3] + (("crosses", "live", "let", table[3][3]),) if seed % 3 == 1 else table
            one, other = scenes.parts(seed, left, table)
            faults = faithful_faults(left, right, table)
            for at in range(4):
                partner = scenes.partner(seed * 4 + at, left, faces(table))
                if faults:
                    with self.assertRaises(NotRight) as caught:
                        led_over(left, right, table, one, other, partner, 300)
                    self.assertEqual(caught.exception.faults, faults)
                    break
                if self.check(left, right, table, one, other, partner, 300):
                    log = run_alone(left, table, one, partner, 300)[1]
                    kind = "keep" if "keep" in left[2] else "none" if not table[1] else "pure"
                    keys = [table[3][1] if table[1] else ""] + [row[0] for row in log]
                    keys += ["inner" for row in log if row[0] == "call" and row[3]] + ["split"] * bool(tight_faults(left, right, table))
                    met.update({(kind, key) for key in keys})
        for key in ("keep", "pure"):
            for told in ("live", "answer", "fails", "ask", "failed"):
                self.assertGreater(met[key, told], 3, (key, told))
            self.assertGreater(met[key, "inner"], 1)
        self.assertGreater(met["pure", "tabled"], 3)
        self.assertGreater(met["none", "gave"], 3)

    def part(self, table, *lines):
        told = faces(table)
        return read_part(left_side(*ALL), told, "\n".join(["body f", "var w word", "var x bit"] + list(lines) + ["end"]))

    def partner(self, table, main, body, cells=()):
        text = list(cells) + ["main", "var w word", "var x bit"] + list(main) + ["end", "body ask", "var w word", "var x bit"] + list(body) + ["end"]
        return read_partner(left_side(*ALL), faces(table), "\n".join(text))

    def test_faults_are_told_first(self):
        one, other = self.part(TABLE, "answer bit.i"), self.part(TABLE, "answer bit.o")
        partner = self.partner(TABLE, (), ())
        for left, right, fault in ((left_side("keep"), right_side(), ("F4",)), (left_side("catch"), right_side(), ("F3",))):
            with self.assertRaises(NotRight) as caught:
                led_over(left, right, TABLE, one, other, partner, 100)
            self.assertEqual(caught.exception.faults, (fault,))
        with self.assertRaises(Nothing):
            led_over(left_side(), right_side(), TABLE, one, other, partner, 100)

    ASK = ("call x f bit.i", "if !on x", "say yes", "else", "end")

    def test_most(self):
        one, other = self.part(TABLE, "answer given"), self.part(TABLE, "answer bit.o")
        partner = self.partner(TABLE, self.ASK, ())
        for powers in ((), ("keep",)):
            for most, want in ((3, None), (4, "one"), (50, "one")):
                self.assertEqual(self.check(left_side(*powers), right_side(*powers), TABLE, one, other, partner, most), want)
            self.assertEqual(self.check(left_side(*powers), right_side(*powers), TABLE, other, one, partner, 50), "other")

    def test_words(self):
        # The import FAILS by each WORD; off comes by an answer that is REFUSED.
        refusing = TABLE[:1] + ((("ask", OUT, INTO),), (WORDS[0], ("bad", "deep", "deep")) + WORDS[2:], MODES)
        for powers in (("catch",), ("catch", "keep"), ALL):
            for word in ("bad", "deep", "off"):
                for table in (TABLE, refusing):
                    partner = self.partner(table, ("call x f bit.i", "say yes"), ("fail word." + word,))
                    caught = ("try", "call x ask given", "catch w", "if !is{} w".format(word if word != "off" else "bad"), "{}", "else", "{}", "end", "end")
                    lines = [tuple([line.format(row) for line in caught[:4]]) + rows + caught[7:] for row, rows in (
                        ("", ("answer bit.i", "else")), ("", ("else",)), ("", ("else", "answer bit.o")))]
                    one, other = lines[0], lines[1]
                    if word == "off":
                        one = caught[:3] + ("if !isbad w", "else", "if !isdeep w", "else", "answer bit.i", "end", "end", "end")
                        other = caught[:3] + ("end",)
                    self.assertEqual(self.check(left_side(*powers), right_side(*powers), table, self.part(table, *one),
                                                self.part(table, *other), partner, 100), "one", (word, one, other))

    def test_words_that_come_from_the_part(self):
        one, other = self.part(TABLE, "fail word.bad"), self.part(TABLE, "fail word.deep")
        partner = self.partner(TABLE, ("try", "call x f bit.i", "catch w", "if !isdeep w", "say yes", "else", "end", "end"), ())
        for powers in (("catch",), ("catch", "keep"), ALL):
            self.assertEqual(self.check(left_side(*powers), right_side(*powers), TABLE, one, other, partner, 100), "other")
            self.assertEqual(self.check(left_side(*powers), right_side(*powers), TABLE, one, self.part(TABLE), self.partner(
                TABLE, ("try", "call x f bit.i", "catch w", "say yes", "end"), ()), 100), "one")

    def test_tabled_imports(self):
        for failing in ("crosses", "stops"):
            table = with_modes(TABLE, (failing, "tabled", "barred", "fresh"))
            one, other = self.part(table, "call x ask given", "answer x"), self.part(table, "call x ask bit.o", "answer x")
            partner = self.partner(table, self.ASK, ("if !on given", "answer bit.i", "else", "fail word.bad", "end"))
            self.assertEqual(self.check(left_side(), right_side(), table, one, other, partner, 100), "one")
            ever = self.partner(table, self.ASK, ("if !on given", "answer bit.i", "else", "end"))
            self.assertEqual(self.check(left_side(), right_side(*ALL), table, one, other, ever, 100), "one")

    def test_turns(self):
        one, other = self.part(TABLE, "call x ask given", "answer x"), self.part(TABLE, "call x ask given", "call x ask given", "answer x")
        partner = self.partner(TABLE, self.ASK, ("if @c", "answer bit.o", "else", "end", "put c truth.yes", "answer bit.i"), ("cell c truth no",))
        for powers in (("keep",), ("again", "keep")):
            self.assertEqual(self.check(left_side(*powers), right_side(*ALL), TABLE, one, other, partner, 100), "one")

    def test_an_inner_call_without_a_memory(self):
        body = ("try", "call x ask given", "catch w", "if !isdeep w", "{}", "else", "end", "end", "answer x")
        one, other = [self.part(TABLE, *[line.format(row) for line in body]) for row in ("answer bit.i", "answer bit.o")]
        partner = self.partner(TABLE, ("call x f bit.o", "say yes"), ("call x f bit.i", "if !on x", "answer bit.o", "else", "end"))
        for right in (right_side("catch"), right_side(*ALL)):
            for again in ("let", "barred"):
                table = with_modes(TABLE, ("crosses", "live", again, "kept"))
                self.assertEqual(self.check(left_side("again", "catch"), right, table, one, other, partner, 100), "one")
                self.assertEqual(self.check(left_side("again", "catch"), right, table, other, one, partner, 100), "other")

    def test_alike_raws_that_are_led_to_unlike_ones(self):
        # On the left three RAWS are ALIKE; out leads them to unlike ones. What is sent is another RAW of the CLASS.
        left_kinds = (("big", ("k", "l", "m", "n")),) + KINDS[1:]
        first = (("last", ("big",), "truth", ("no", "no", "no", "yes")),)
        out, into = ("big", "num", ("a", "b", "b", "c")), ("num", "big", ("l", "l", "n", "m"))
        table = ((("f", into, out), ("g", into, out)), (("ask", out, into),), WORDS, MODES)
        for powers in ((), ("keep",), ("again", "keep")):
            left, right = (left_kinds, first, powers), right_side(*powers)
            self.assertEqual(faithful_faults(left, right, table), ())
            self.assertNotEqual(tight_faults(left, right, table), ())
            texts = ["body f\nvar x big\ncall x ask given\nanswer given\nend\nbody g\nvar x big\ncall x ask given\nanswer {}\nend".format(row)
                     for row in ("given", "big.n")]
            one, other = [read_part(left, faces(table), text) for text in texts]
            partner = read_partner(left, faces(table), "main\nvar x big\ncall x f big.k\ncall x g x\nif !last x\nelse\nsay yes\nend\nend\n"
                                   "body ask\nif !last given\nelse\nanswer big.k\nend\nend")
            self.assertEqual(self.check(left, right, table, one, other, partner, 100), "one")

    THINGS = ((("give", ("thing",), ("thing",)), ("make", ("num", "bit", ("i", "o", "o", "o")), ("thing",))), TABLE[1], WORDS, MODES)

    def test_things(self):
        texts = ["body give\nvar t thing\nmake t bit.i\nanswer {}\nend\nbody make\nvar t thing\nmake t given\nanswer t\nend".format(row)
                 for row in ("given", "t")]
        one, other = [read_part(left_side(*ALL), faces(self.THINGS), text) for text in texts]
        for told, which in (("yes", "one"), ("no", "other")):
            rows = ("say yes", "else") if told == "yes" else ("else", "say yes")
            text = "\n".join(["main", "var t thing", "var u thing", "call t make bit.i", "call u give t", "call u give u", "call u make bit.i",
                              "call u give t", "if = t u"] + list(rows) + ["end", "end", "body ask", "end"])
            partner = read_partner(left_side(*ALL), faces(self.THINGS), text)
            for powers in (("same",), ("keep", "same"), ALL):
                self.assertEqual(self.check(left_side(*powers), right_side(*powers), self.THINGS, one, other, partner, 100), which)
            with self.assertRaises(NotRight):
                led_over(left_side("same"), right_side("same"), with_modes(self.THINGS, MODES[:3] + ("fresh",)), one, other, partner, 100)

    def test_things_that_nobody_tells_apart(self):
        # On the left nothing is asked for by same; on the right handles come anew each time.
        table = with_modes(self.THINGS, MODES[:3] + ("fresh",))
        texts = ["body give\nvar t thing\n{}\nanswer given\nend\nbody make\nvar t thing\nmake t given\nanswer t\nend".format(row)
                 for row in ("let t given", "while truth.yes\nend")]
        one, other = [read_part(left_side(*ALL), faces(table), text) for text in texts]
        text = "main\nvar t thing\nvar u thing\ncall t make bit.i\ncall u give t\ncall u give u\nsay yes\nend\nbody ask\nend"
        partner = read_partner(left_side(*ALL), faces(table), text)
        for powers in ((), ("keep",)):
            self.assertEqual(self.check(left_side(*powers), right_side(*ALL), table, one, other, partner, 100), "one")

    def test_at_the_bounds(self):
        met = 0
        for seed in range(80):
            right, left, table = scenes.full(seed)
            if faithful_faults(left, right, table):
                continue
            one, other = [make.lively_part(seed * 2 + at, left, faces(table)) for at in (0, 1)]
            for at in range(12):
                partner = scenes.partner(seed * 100 + at, left, faces(table))
                met += self.check(left, right, table, one, other, partner, 1000) is not None
        self.assertGreater(met, 4)


if __name__ == "__main__":
    unittest.main()
