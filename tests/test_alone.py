"""Runs ALONE [5], [22]."""

import itertools
import unittest

from besidealone.alone import run_alone
from besidealone.programs import is_part, is_partner
from besidealone.programtexts import read_part, read_partner
from besidealone.tables import faces
from tests import make, reference_runs
from tests.helpers import asked

BITS = (("bit", ("i", "o")), ("truth", ("no", "yes")), ("word", ("bad", "deep", "off")))
OPERATIONS = (("isbad", ("word",), "truth", ("yes", "no", "no")), ("isdeep", ("word",), "truth", ("no", "yes", "no")),
              ("no", ("truth",), "truth", ("yes", "no")), ("on", ("bit",), "truth", ("yes", "no")))
SIDE = (BITS, OPERATIONS, ("again", "catch", "keep", "same"))
WAY = ("bit", "bit", ("i", "o"))
WORDS = (("bad", "deep", "off"), ("bad", "deep", "off"), "bad", "bad", "deep")
MODES = ("crosses", "live", "let", "kept")
TABLE = ((("f", WAY, WAY),), (("ask", WAY, WAY),), WORDS, MODES)
THINGS = ((("f", WAY, WAY), ("give", ("thing",), ("thing",)), ("look", ("thing",), WAY), ("new", WAY, ("thing",))),
          (("ask", WAY, WAY),), WORDS, MODES)
ENDLESS = "main\nvar n bit\ncall n f bit.i\nsay yes\nend\nbody ask\nanswer given\nend"


def part_of(table, **bodies):
    """The PART with these bodies; those of other exports are empty; cells stand under the name cells."""
    rows = bodies.get("cells", [])
    for name, _, _ in faces(table)[0]:
        rows = rows + ["body " + name] + bodies.get(name, []) + ["end"]
    return read_part(SIDE, faces(table), "\n".join(rows))


def partner_of(table, main, ask=(), cells=()):
    rows = list(cells) + ["main"] + list(main) + ["end"]
    if table[1]:
        rows += ["body ask"] + list(ask) + ["end"]
    return read_partner(SIDE, faces(table), "\n".join(rows))


class Alone(unittest.TestCase):

    def run_both(self, table, part, partner, most=200):
        found = asked(self, run_alone, SIDE, table, part, partner, most)
        self.assertEqual(found, reference_runs.alone(SIDE, table, part, partner, most))
        return found

    def ends_at(self, table, part, partner, end, steps):
        """The run ends so just from so many STEPS on; with fewer its log is a beginning of the whole one."""
        whole = self.run_both(table, part, partner, 10000)
        self.assertEqual(whole[0], end)
        for most in range(steps + 3):
            found = self.run_both(table, part, partner, most)
            self.assertEqual(found[0], "on" if most < steps else end, most)
            self.assertEqual(found[1], whole[1][:len(found[1])])
            if most >= steps:
                self.assertEqual(found, whole)
        return whole[1]

    def test_ends(self):
        mute = part_of(TABLE, f=["answer given"])
        for end, steps, main in (("yes", 1, ["say yes"]), ("no", 1, ["say no"]), ("end", 0, []), ("fails", 1, ["fail word.off"]),
                                 ("end", 1, ["if truth.yes", "else", "say yes", "end"]),
                                 ("yes", 2, ["var n bit", "let n bit.o", "say yes", "say no"]),
                                 ("ever", 2, ["while truth.yes", "end"]), ("end", 1, ["while truth.no", "end"]),
                                 ("no", 3, ["var w word", "try", "fail w", "catch w", "say no", "end"])):
            self.assertEqual(self.ends_at(TABLE, mute, partner_of(TABLE, main), end, steps), ())

    def test_what_variables_and_cells_have_at_first(self):
        part = part_of(TABLE, cells=["cell c bit o"], f=["var y bit", "if !on given", "answer y", "else", "answer @c", "end"])
        main = ["var x bit", "call x f x", "call x f bit.o"]
        log = self.ends_at(TABLE, part, partner_of(TABLE, main), "end", 6)
        self.assertEqual(log, (("call", "f", "i", False), ("answer", "i"), ("call", "f", "o", False), ("answer", "o")))

    def test_cells_are_shared(self):
        part = part_of(TABLE, cells=["cell c bit i"], f=["var x bit", "let x @c", "put c given", "answer x"])
        partner = partner_of(TABLE, ["var x bit", "call x f bit.o", "call x f bit.i", "call x f @n"], cells=["cell n bit i"])
        log = self.run_both(TABLE, part, partner)[1]
        self.assertEqual([row[1] for row in log if row[0] == "answer"], ["i", "o", "i"])

    def test_a_body_without_answer_goes_on_for_ever(self):
        for body in ([], ["var x bit", "let x bit.i"], ["if truth.no", "answer given", "else", "end"]):
            log = self.run_both(TABLE, part_of(TABLE, f=body), partner_of(TABLE, ["var x bit", "call x f x", "say yes"]))
            self.assertEqual(log, ("ever", (("call", "f", "i", False),)))
        part = part_of(TABLE, f=["var x bit", "call x ask given", "answer x"])
        self.assertEqual(self.run_both(TABLE, part, partner_of(TABLE, ["var x bit", "call x f x"]))[0], "ever")

    def test_a_thing_that_lacks(self):
        main = ["var s thing", "var t thing", "var x bit"]
        for row in ("let s t", "let t t", "put c t", "call x look t", "call s give t", "if = s t\nelse\nend", "put c @c",
                    "while = t t\nend", "call x look @c"):
            partner = partner_of(THINGS, main + [row, "say yes"], cells=["cell c thing"])
            self.assertEqual(self.run_both(THINGS, part_of(THINGS), partner), ("ever", ()))
        for row in ("look x s", "let s t", "put c s", "answer s", "let s @c", "if = s s\nelse\nend", "make t = s t",
                    "while = s s\nend"):
            part = part_of(THINGS, cells=["cell c thing"], give=["var s thing", "var t thing", "var x bit", row, "answer given"],
                           new=["var t thing", "make t given", "answer t"])
            partner = partner_of(THINGS, ["var t thing", "call t new bit.i", "call t give t", "say yes"])
            self.assertEqual(self.run_both(THINGS, part, partner)[0], "ever")

    def test_a_thing_that_lacks_where_the_call_would_fail_at_once(self):
        table = ((("f", WAY, WAY), ("new", WAY, ("thing",))), (("ask", ("truth", "truth", ("no", "yes")), WAY),), WORDS, MODES)
        for first, end in (("let s s", "ever"), ("let x x", "no")):
            body = ["var s thing", "var w word", "var x bit", "try", "call x ask = s s" if end == "ever" else "call x ask truth.no",
                    "catch w", "end", "answer x"]
            part = part_of(table, f=body, new=[])
            partner = partner_of(table, ["var x bit", "call x f x", "say no"], ["var y bit", "call y f bit.o", "answer y"])
            self.assertEqual(self.run_both(table, part, partner)[0], end)

    def test_a_look_into_a_variable_of_another_kind(self):
        for content, kind, end in (("given", "bit", "yes"), ("given", "truth", "ever"), ("truth.no", "truth", "yes"),
                                   ("truth.no", "bit", "ever"), ("word.off", "word", "yes"), ("word.off", "truth", "ever")):
            part = part_of(THINGS, new=["var t thing", "var x " + kind, "make t " + content, "look x t", "answer t"])
            partner = partner_of(THINGS, ["var t thing", "call t new bit.i", "say yes"])
            self.assertEqual(self.run_both(THINGS, part, partner)[0], end)

    def test_inner_calls(self):
        part = part_of(TABLE, f=["var w word", "var x bit", "try", "call x ask given", "catch w", "if !isdeep w", "let x bit.o",
                                 "else", "fail w", "end", "end", "answer x"])
        main = ["var x bit", "call x f bit.i", "say yes"]
        log = self.ends_at(TABLE, part, partner_of(TABLE, main, ["var x bit", "call x f given", "call x f x", "answer x"]), "yes", 18)
        self.assertEqual(log, (("call", "f", "i", False), ("ask", "ask", "i"), ("call", "f", "i", True), ("answer", "o"),
                               ("call", "f", "o", True), ("answer", "o"), ("reply", "o"), ("answer", "o")))
        log = self.ends_at(TABLE, part, partner_of(TABLE, main, ["fail word.off"]), "fails", 6)
        self.assertEqual(log[1:], (("ask", "ask", "i"), ("failed", "off"), ("fails", "off")))
        part = part_of(TABLE, f=["var x bit", "call x ask given", "answer x"])
        log = self.ends_at(TABLE, part, partner_of(TABLE, main, ["var x bit", "call x f given", "answer x"]), "fails", 4)
        self.assertEqual(log, (("call", "f", "i", False), ("ask", "ask", "i"), ("call", "f", "i", True), ("fails", "deep"),
                               ("failed", "deep"), ("fails", "deep")))

    def test_behind_an_import_calls_are_no_more_inner(self):
        part = part_of(TABLE, f=["var x bit", "call x ask given", "call x ask x", "answer x"])
        main = ["var x bit", "call x f bit.i", "call x f x", "say yes"]
        log = self.run_both(TABLE, part, partner_of(TABLE, main, ["answer bit.o"]))[1]
        self.assertEqual([row[3] for row in log if row[0] == "call"], [False, False])
        self.assertEqual([row[2] for row in log if row[0] == "ask"], ["i", "o", "o", "o"])

    def test_fails_and_tries(self):
        caught = ["var v word", "var w word", "var x bit", "try", "try", "fail word.bad", "catch w", "fail word.off", "end",
                  "catch v", "if !isbad w", "fail v", "else", "end", "end"]
        part = part_of(TABLE, f=caught)
        log = self.ends_at(TABLE, part, partner_of(TABLE, ["var x bit", "call x f x"]), "fails", 7)
        self.assertEqual(log, (("call", "f", "i", False), ("fails", "off")))
        part = part_of(TABLE, f=["fail word.deep"])
        main = ["var w word", "var x bit", "try", "while truth.yes", "if truth.yes", "call x f x", "else", "end", "end", "catch w",
                "if !isdeep w", "say yes", "else", "end", "end"]
        self.ends_at(TABLE, part, partner_of(TABLE, main), "yes", 7)
        second = ["var w word", "try", "fail word.off", "catch w", "fail word.bad", "end"]
        self.ends_at(TABLE, part, partner_of(TABLE, second), "fails", 3)

    def test_things(self):
        part = part_of(THINGS, cells=["cell c thing", "cell d truth no"],
                       new=["var t thing", "if @d", "answer @c", "else", "end", "put d truth.yes", "make t given", "put c t", "make t bit.o",
                            "answer @c"],
                       give=["var t thing", "if = given @c", "make t bit.i", "answer t", "else", "answer given", "end"],
                       look=["var x bit", "look x given", "answer x"])
        main = ["var s thing", "var t thing", "var u thing", "var x bit", "call s new bit.i", "call t new bit.o", "call u give t",
                "call x look s", "if = s t", "if = s u", "else", "call u give u", "call s give @c", "end", "else", "end"]
        log = self.run_both(THINGS, part, partner_of(THINGS, main, cells=["cell c thing"]))
        self.assertEqual(log[0], "ever")
        self.assertEqual(log[1], (("call", "new", "i", False), ("gave", 0, 0), ("call", "new", "o", False), ("gave", 1, 0),
                                  ("call", "give", 1, False), ("gave", 2, 2), ("call", "look", 0, False), ("answer", "i"),
                                  ("call", "give", 2, False), ("gave", 3, 2)))

    def test_receipts_tell_where_a_thing_came_from(self):
        part = part_of(THINGS, cells=["cell c thing", "cell d truth no"], look=["answer bit.o"],
                       new=["var t thing", "if @d", "else", "make t given", "put c t", "put d truth.yes", "end", "answer @c"])
        main = ["var s thing", "var t thing", "var x bit", "call s new bit.i", "call t new bit.i", "call x look t", "put c s", "let s t",
                "call x look @c", "call x look s", "if = s @c", "say yes", "else", "end"]
        end, log = self.run_both(THINGS, part, partner_of(THINGS, main, cells=["cell c thing"]))
        self.assertEqual(end, "yes")
        self.assertEqual([row[2] for row in log if row[:2] == ("call", "look")], [1, 0, 1])
        self.assertEqual([row for row in log if row[0] == "gave"], [("gave", 0, 0), ("gave", 1, 0)])

    def test_random_programs(self):
        for seed in range(250):
            left = make.side(seed, 4)
            if seed % 3:
                left = left[:2] + (make.POWERS,)
            table = make.table(seed, left, left)
            part = make.lively_part(seed, left, faces(table))
            partner = make.lively_partner(seed, left, faces(table))
            self.assertTrue(is_part(left, faces(table), part) and is_partner(left, faces(table), partner))
            for most in list(range(12)) + [20, 50, 300]:
                self.assertEqual(run_alone(left, table, part, partner, most),
                                 reference_runs.alone(left, table, part, partner, most))


COUNT = (BITS[:1] + (("num", tuple("abcdefgh")),) + BITS[1:],
         (("at", ("num",), "truth", ("no",) * 7 + ("yes",)), ("no", ("truth",), "truth", ("yes", "no")),
          ("step", ("num",), "num", tuple("bcdefgha"))), ("again", "catch", "keep", "same"))


def counting(names, inner):
    """Lines that count the variables on, the first one fastest, and do something each time."""
    rows = ["let v !step v".replace("v", names[0])]
    if len(names) > 1:
        rows += ["if !at " + names[0]] + counting(names[1:], []) + ["else", "end"]
    return rows + inner


class Loops(unittest.TestCase):
    """Loops that come round, and such that don't."""

    def both(self, main, most, body=(), cells=(), part=(), side=COUNT):
        table = ((("f", WAY, WAY), ("new", WAY, ("thing",))), (("ask", WAY, WAY),), WORDS, MODES)
        part = read_part(side, faces(table), "\n".join(list(part) + ["body f"] + list(body) + ["end", "body new", "var t thing",
                                                                                      "make t given", "answer t", "end"]))
        partner = read_partner(side, faces(table), "\n".join(list(cells) + ["main"] + list(main) + ["end", "body ask", "end"]))
        found = asked(self, run_alone, side, table, part, partner, most)
        if most < 3000:
            self.assertEqual(found, reference_runs.alone(side, table, part, partner, most))
        return found[0]

    def last_on(self, most, main, **told):
        """The run is on with so many STEPS, and goes on for ever with one more."""
        self.assertEqual(self.both(main, most, **told), "on")
        self.assertEqual(self.both(main, most + 1, **told), "ever")

    def test_just_the_asking(self):
        self.last_on(1, ["while truth.yes", "end"])
        self.last_on(2, ["var x bit", "while truth.yes", "let x x", "end"])
        self.last_on(4, ["var x bit", "while truth.yes", "let x bit.o", "end"])
        self.last_on(16, ["var n num", "while truth.yes", "let n !step n", "end"])
        self.last_on(5, ["while truth.yes", "if @c", "else", "put c truth.yes", "end", "end"], cells=["cell c truth no"])

    def test_what_comes_again(self):
        # A variable that is nowhere asked for, a WORD, a thing and a cell all count.
        self.last_on(4, ["var w word", "while truth.yes", "let w word.off", "end"])
        self.last_on(4, ["while truth.yes", "put d bit.i", "end"], cells=["cell d bit o"])
        self.last_on(7, ["var s thing", "call s new bit.i", "while truth.yes", "put c s", "end"], cells=["cell c thing"])

    def test_given_counts(self):
        body = ["while truth.yes", "let given bit.o", "end"]
        for given, steps in (("i", 5), ("o", 3)):
            self.last_on(steps, ["var x bit", "call x f bit." + given], body=body)

    def test_receipts_count(self):
        # One thing by two RECEIPTS: s and t are exchanged over and over, so each second asking is the same.
        part = ["cell c thing", "cell d truth no"]
        table = ((("new", WAY, ("thing",)),), (), WORDS, MODES)
        part = read_part(COUNT, faces(table), "\n".join(part + ["body new", "var t thing", "if @d", "else", "make t given", "put c t",
                                                                "put d truth.yes", "end", "answer @c", "end"]))
        main = ["main", "var s thing", "var t thing", "var u thing", "call s new bit.i", "call t new bit.i", "let u s",
                "while truth.yes", "let u s", "let s t", "let t u", "end", "end"]
        partner = read_partner(COUNT, faces(table), "\n".join(main))
        ends = [run_alone(COUNT, table, part, partner, most)[0] for most in range(40)]
        # 5 and 3 STEPS in new, 3 in main, then asking, and u is s's and t's RECEIPT by turns.
        self.assertEqual(ends.index("ever"), 2 + 5 + 2 + 1 + 1 + 4 + 4 + 4)
        for most in range(40):
            self.assertEqual(run_alone(COUNT, table, part, partner, most), reference_runs.alone(COUNT, table, part, partner, most))

    def test_a_call_between(self):
        body = ["answer given"]
        self.assertEqual(self.both(["var x bit", "while truth.yes", "call x f x", "end"], 2000, body=body), "on")
        self.assertEqual(self.both(["var w word", "var x bit", "while truth.yes", "try", "call x f x", "catch w", "end", "end"], 2000,
                                   body=["fail word.bad"]), "on")
        inner = ["var w word", "var x bit", "while truth.yes", "try", "call x ask x", "catch w", "end", "end"]
        table = ((("f", WAY, WAY),), (("ask", WAY, WAY),), WORDS, MODES)
        part = read_part(SIDE, faces(table), "\n".join(["body f"] + inner + ["end"]))
        partner = read_partner(SIDE, faces(table), "main\nvar x bit\ncall x f x\nend\nbody ask\nvar x bit\ncall x f x\nend")
        self.assertEqual(run_alone(SIDE, table, part, partner, 3000)[0], "on")
        # Behind the last call it comes round.
        self.last_on(7, ["var x bit", "var n num", "while truth.yes", "if !at n", "else", "let n num.h", "call x f x", "end", "end"],
                     body=body)

    def test_loops_in_loops(self):
        # Each time that the inner one is begun it forgets.
        self.last_on(6, ["var x bit", "while truth.yes", "let x bit.o", "while truth.no", "end", "end"])
        self.last_on(32, ["var n num", "while truth.yes", "while !no truth.yes", "end", "let n !step n", "if truth.yes", "else",
                          "end", "end"])
        self.assertEqual(self.both(["var n num", "while !no !at n", "let n !step n", "while !no truth.yes", "end", "end", "say yes"], 500),
                         "yes")

    def test_loops_that_make_things_do_not_come_round(self):
        self.assertEqual(self.both(["var x bit", "call x f x"], 2500, body=["var t thing", "while truth.yes", "make t given", "end"]), "on")

    def test_long_loops(self):
        names = ["a", "b", "c"]
        main = ["var " + name + " num" for name in names] + ["while truth.yes"] + counting(names, []) + ["end"]
        ends = [self.both(main, most) for most in (1000, 1500, 1700, 1800, 2900)]
        self.assertEqual(ends, sorted(ends, reverse=True))
        self.assertEqual(ends[0::4], ["on", "ever"])
        names = ["a", "b", "c", "d", "e"]
        main = ["var " + name + " num" for name in names] + ["while truth.yes"] + counting(names, []) + ["end"]
        self.assertEqual(self.both(main, 200000), "ever")
        self.assertEqual(self.both(main, 60000), "on")
        names.append("g")
        main = ["var " + name + " num" for name in names] + ["while truth.yes"] + counting(names, []) + ["end"]
        self.assertEqual(self.both(main, 200000), "on")
        call = ["var x bit", "while truth.yes", "call x f x", "end"]
        self.assertEqual(self.both(call, 200000, body=["answer given"]), "on")


if __name__ == "__main__":
    unittest.main()
