"""What is brought back [31]."""

import collections
import unittest

from besidealone.alone import run_alone
from besidealone.back import brought_back, replaying
from besidealone.beside import run_beside
from besidealone.breaks import parting
from besidealone.errors import MixedError, Nothing, NotRight
from besidealone.programs import is_partner, powers_of
from besidealone.programtexts import read_part, read_partner
from besidealone.tables import faces, right_faces, with_modes
from besidealone.tight import tight_faults
from tests import make, reference, reference_runs, scenes
from tests.helpers import asked
from tests.reference_moves import follows

BITS = (("bit", ("i", "o")), ("truth", ("no", "yes")), ("word", ("bad", "deep", "off")))
TESTS = (("isbad", ("word",), "truth", ("yes", "no", "no")), ("on", ("bit",), "truth", ("yes", "no")))
WAY = ("bit", "bit", ("i", "o"))
SAME = (("bad", "deep", "off"), ("bad", "deep", "off"), "bad", "bad", "deep")
MODES = ("crosses", "live", "let", "kept")
PLAIN = ((("f", WAY, WAY),), (("ask", WAY, WAY),), SAME, MODES)
THINGS = ((("give", ("thing",), ("thing",)), ("make", WAY, ("thing",))), (("ask", WAY, WAY),), SAME, MODES)
ALL = ("again", "catch", "keep", "same")


def side(*powers):
    return (BITS, TESTS, powers)


def part_of(table, *bodies, cells=()):
    """A PART, by the lines of its bodies."""
    rows = list(cells)
    for (name, _, _), body in zip(faces(table)[0], bodies):
        rows += ["body " + name] + list(body) + ["end"]
    return read_part(side(*ALL), faces(table), "\n".join(rows))


def partner_of(table, main, *bodies, cells=()):
    rows = list(cells) + ["main"] + list(main) + ["end"]
    for (name, _, _), body in zip(faces(table)[1], bodies):
        rows += ["body " + name] + list(body) + ["end"]
    return read_partner(side(*ALL), faces(table), "\n".join(rows))


class Replaying(unittest.TestCase):

    def check(self, left, table, log, parts):
        """Plays the log's replaying with PARTS: it says YES just with those that make the same moves; returns how often."""
        found = asked(self, replaying, left, table, log)
        self.assertTrue(reference.partner_ok(left, faces(table), found))
        met = collections.Counter()
        for part in parts:
            end = run_alone(left, table, part, found, 200000)[0]
            want = follows(left, table, part, log)
            self.assertEqual(end == "yes", want, (log, part))
            met[want] += 1
        return met

    def needs(self, left, log):
        """Whether a power lacks."""
        return (any(row[0] == "call" and row[3] for row in log) and "again" not in left[2]) or (
            any(row[0] == "fails" for row in log) and "catch" not in left[2])

    def test_logs_of_runs(self):
        met, ends = collections.Counter(), collections.Counter()
        for seed in range(700):
            left, right, table = scenes.tables(seed)
            if "keep" not in left[2]:
                continue
            one, other = scenes.parts(seed, left, table)
            others = [make.varied(seed * 3 + at, left, one) for at in range(3)]
            others = [part for part in others if reference.part_ok(left, faces(table), part)]
            runs = []
            for at in range(3):
                partner = scenes.partner(seed * 3 + at, left, faces(table))
                runs.append(("alone", *run_alone(left, table, one, partner, 600)[:2]))
                partner = scenes.partner(seed * 3 + at, right, right_faces(table))
                runs.append(("beside", *run_beside(left, right, table, one, partner, 600)[:2]))
            for where, end, log in runs:
                if end not in ("yes", "no", "end"):
                    continue
                if self.needs(left, log):
                    with self.assertRaises(Nothing):
                        replaying(left, table, log)
                    met["needs"] += 1
                    continue
                found = self.check(left, table, log, [one, other] + others)
                self.assertTrue(follows(left, table, one, log))
                ends[where, end] += 1
                met.update(found)
                for head in {row[0] for row in log} | {"inner" for row in log if row[0] == "call" and row[3]}:
                    met[head] += 1
        for where in ("alone", "beside"):
            for end in ("yes", "no", "end"):
                self.assertGreater(ends[where, end], 30, (where, end))
        for head in (True, False, "gave", "fails", "ask", "failed", "inner"):
            self.assertGreater(met[head], 30, head)
        self.assertGreater(met["needs"], 10)

    ECHO = ("var x bit", "call x ask given", "answer x")

    def ends(self, left, table, log, *parts):
        found = asked(self, replaying, left, table, log)
        self.assertTrue(is_partner(left, faces(table), found))
        return [run_alone(left, table, part, found, 5000)[0] == "yes" for part in parts]

    def test_turns(self):
        left, log = side("keep"), (("call", "f", "i", False), ("ask", "ask", "i"), ("reply", "o"), ("answer", "o"), ("call", "f", "o", False),
                                   ("answer", "i"))
        cells = ("cell c truth no",)
        first = ("if @c", "answer bit.i", "else", "put c truth.yes")
        good = part_of(PLAIN, ("var x bit",) + first + ("call x ask given", "answer x", "end"), cells=cells)
        never = part_of(PLAIN, ("var x bit",) + first + ("answer bit.o", "end"), cells=cells)
        late = part_of(PLAIN, ("var x bit", "if @c", "call x ask bit.i", "answer bit.i", "else", "put c truth.yes", "answer bit.o", "end"),
                       cells=cells)
        twice = part_of(PLAIN, ("var x bit",) + first + ("call x ask given", "call x ask given", "answer x", "end"), cells=cells)
        other = part_of(PLAIN, ("var x bit",) + first + ("call x ask bit.o", "answer x", "end"), cells=cells)
        fails = part_of(PLAIN, ("var x bit",) + first + ("call x ask given", "fail word.bad", "end"), cells=cells)
        self.assertEqual(self.ends(left, PLAIN, log, good, never, late, twice, other, fails), [True] + [False] * 5)
        blind = left[:1] + ((),) + left[2:]
        self.assertEqual(self.ends(blind, PLAIN, log, good, never, late, twice, other, fails), [True, False, False, False, True, False])

    def test_words(self):
        left = side("catch", "keep")
        log = (("call", "f", "i", False), ("ask", "ask", "i"), ("failed", "deep"), ("fails", "deep"), ("call", "f", "i", False),
               ("ask", "ask", "i"), ("reply", "o"), ("answer", "o"))
        caught = ("var w word", "var x bit", "try", "call x ask given", "catch w", "fail word.{}", "end", "answer x")
        good, alike, unlike = [part_of(PLAIN, tuple([line.format(word) for line in caught])) for word in ("deep", "off", "bad")]
        answers = part_of(PLAIN, ("var w word", "var x bit", "try", "call x ask given", "catch w", "end", "answer bit.o"))
        self.assertEqual(self.ends(left, PLAIN, log, part_of(PLAIN, self.ECHO), good, alike, unlike, answers), [True, True, True, False, False])
        with self.assertRaises(Nothing):
            replaying(side("keep"), PLAIN, log)

    def test_inner_calls(self):
        cells = ("cell c truth no",)
        body = ("var x bit", "if @c", "answer {}", "else", "end", "put c truth.yes", "call x ask given", "put c truth.no", "answer x")
        one, other = [part_of(PLAIN, tuple([line.format(answer) for line in body]), cells=cells) for answer in ("given", "bit.o")]
        partner = partner_of(PLAIN, ("var x bit", "call x f bit.i"), ("var x bit", "call x f bit.i", "answer x"))
        left = side("again", "keep")
        log = run_alone(left, PLAIN, one, partner, 100)[1]
        self.assertEqual([row[3] for row in log if row[0] == "call"], [False, True])
        self.assertEqual(self.ends(left, PLAIN, log, one, other), [True, False])
        for powers in (("keep",), ("catch", "keep", "same")):
            with self.assertRaises(Nothing):
                replaying(side(*powers), PLAIN, log)

    def test_an_inner_call_that_fails_with_another_part(self):
        # The import FAILS then, and the PART asks it once more: that is no replaying of the log.
        cells = ("cell a truth no", "cell b truth no")
        body = ("var w word", "var x bit", "if @a", "if @b", "answer bit.i", "else", "put b truth.yes", "{}", "end", "else", "end",
                "put a truth.yes", "try", "call x ask given", "catch w", "call x ask given", "end", "answer x")
        one, other = [part_of(PLAIN, tuple([line.format(row) for line in body]), cells=cells) for row in ("answer bit.i", "fail word.bad")]
        partner = partner_of(PLAIN, ("var x bit", "call x f bit.i"), ("var x bit", "call x f bit.i", "answer x"))
        left = side(*ALL)
        log = run_alone(left, PLAIN, one, partner, 100)[1]
        self.assertEqual(self.ends(left, PLAIN, log, one, other), [True, False])

    def test_things(self):
        given, new, made = ("answer given",), ("var t thing", "make t bit.i", "answer t"), ("var t thing", "make t given", "answer t")
        back, fresh = part_of(THINGS, given, made), part_of(THINGS, new, made)
        partner = partner_of(THINGS, ("var t thing", "var u thing", "call t make bit.o", "call u make bit.i", "call u give t", "call u give u"), ())
        for powers, want in ((("keep",), True), (("keep", "same"), False)):
            left = side(*powers)
            for one, other in ((back, fresh), (fresh, back)):
                log = run_alone(left, THINGS, one, partner, 100)[1]
                self.assertEqual(len(log), 8)
                self.assertEqual(self.ends(left, THINGS, log, one, other), [True, want])

    def test_things_of_inner_calls(self):
        # What an INNER call gave is handed over by main later, and told apart.
        cells = ("cell c thing", "cell d truth no")
        made = ("var t thing", "var x bit", "if @d", "make t given", "{}", "else", "put d truth.yes", "make t given", "put c t",
                "call x ask given", "answer t", "end")
        one, other = [part_of(THINGS, ("answer given",), tuple([line.format(row) for line in made]), cells=cells)
                      for row in ("answer t", "answer @c")]
        partner = partner_of(THINGS, ("var t thing", "var u thing", "call t make bit.i", "call u give @k", "call t give t"),
                             ("var t thing", "call t make bit.o", "put k t", "answer bit.i"), cells=("cell k thing",))
        for powers, want in ((("again", "keep"), True), (("again", "keep", "same"), False)):
            left = side(*powers)
            for first, second in ((one, other), (other, one)):
                log = run_alone(left, THINGS, first, partner, 100)[1]
                self.assertEqual([row[2] for row in log if row[0] == "call"][2:], [0, 1])
                self.assertEqual(self.ends(left, THINGS, log, first, second), [True, want])

    def test_the_empty_log(self):
        for table in (PLAIN, THINGS):
            found = replaying(side("keep"), table, ())
            self.assertEqual(run_alone(side("keep"), table, part_of(table, (), ()), found, 10), ("yes", ()))

    def long(self, lines, many, last):
        """The STATEMENTS with which a body does something often, and a last thing; it counts in four variables."""
        counts = ["while truth.yes"] + lines * many
        for name in "dcba":
            last = ["if " + name] + last + ["else"] + ["let " + name + " truth.yes"] + ["let " + own + " truth.no" for own in "abcd" if own > name] + [
                "end"]
        return ["var " + name + " truth" for name in "abcd"] + counts + last + ["end"]

    def test_the_most_steps(self):
        left = side(*ALL)
        lines = ["var t thing"] + self.long(["call t make bit.i"], 25, ["say yes"])
        made = part_of(THINGS, ("answer given",), ("var t thing", "make t given", "answer t"))
        asking = part_of(PLAIN, ["var x bit"] + self.long(["call x ask given"], 40, ["answer x"]))
        inner = partner_of(PLAIN, ("var x bit", "call x f bit.i", "say no"), ["var x bit"] + self.long(["call x f bit.o"], 40, ["answer x"]))
        once = part_of(PLAIN, ("var w word", "var x bit", "try", "call x ask given", "catch w", "end", "answer given"))
        plain = partner_of(PLAIN, ("var x bit", "call x f bit.i", "say yes"), ("answer bit.o",))
        for table, part, partner, least in ((THINGS, made, partner_of(THINGS, lines, ()), 200), (PLAIN, asking, plain, 400),
                                            (PLAIN, once, inner, 200), (PLAIN, once, partner_of(PLAIN, ["var x bit"] + self.long(
                                                ["call x f bit.i"], 25, ["say yes"]), ("answer bit.i",)), 400)):
            end, log = run_alone(left, table, part, partner, 1000)
            self.assertIn(end, ("yes", "no"))
            self.assertGreater(len(log), least)
            found = replaying(left, table, log)
            self.assertEqual(run_alone(left, table, part, found, 200000), ("yes", log))
            other = part_of(table, *[("var t thing", "var x bit") for _ in table[0]])
            self.assertEqual(run_alone(left, table, other, found, 200000)[0], "ever")


class BroughtBack(unittest.TestCase):

    def check(self, left, right, table, one, other, partner, most):
        """What is brought back PARTS the PARTS ALONE with the same one; returns which one."""
        which = parting(left, right, table, "beside", one, other, partner, most)
        if which is None:
            with self.assertRaises(Nothing):
                brought_back(left, right, table, one, other, partner, most)
            return None
        found = asked(self, brought_back, left, right, table, one, other, partner, most)
        self.assertTrue(reference.partner_ok(left, faces(table), found))
        self.assertEqual(parting(left, right, table, "alone", one, other, found, 200000), which)
        return which

    def test_many(self):
        met = collections.Counter()
        for seed in range(2600):
            left, right, table = scenes.tables(seed)
            if seed % 3:
                # Then more TABLES are tight.
                left = left[:2] + (tuple([power for power in ALL if power in left[2] or power in ("again", "catch")]),)
                right = right[:2] + (tuple([power for power in left[2] if power in right[2] or power == "again"]),)
                table = table[:3] + ((table[3][0], "live", "let", table[3][3]),) if seed % 3 == 1 else table
            one, other = scenes.parts(seed, left, table)
            faults = tight_faults(left, right, table)
            for at in range(4):
                partner = scenes.partner(seed * 4 + at, right, right_faces(table))
                if faults:
                    with self.assertRaises(NotRight) as caught:
                        brought_back(left, right, table, one, other, partner, 300)
                    self.assertEqual(caught.exception.faults, faults)
                    break
                if self.check(left, right, table, one, other, partner, 300):
                    log = run_beside(left, right, table, one, partner, 300)[1]
                    keys = ["keep" if "keep" in left[2] else "none" if not table[1] else "pure", table[3][1] if table[1] else ""]
                    keys += [row[0] for row in log] + ["inner" for row in log if row[0] == "call" and row[3]]
                    met.update({(keys[0], key) for key in keys})
        for key in ("keep", "pure"):
            for told in ("live", "tabled", "answer", "fails", "ask", "failed", "gave"):
                self.assertGreater(met[key, told], 8, (key, told))
            self.assertGreater(met[key, "inner"], 3)
        self.assertGreater(met["none", "gave"], 8)

    def test_faults_are_told_first(self):
        one, other = [part_of(PLAIN, ("answer bit." + raw,)) for raw in "io"]
        partner = partner_of(PLAIN, (), ())
        with self.assertRaises(NotRight) as caught:
            brought_back(side(), side("keep"), PLAIN, one, other, partner, 100)
        self.assertEqual(caught.exception.faults, (("T3",),))
        with self.assertRaises(Nothing):
            brought_back(side("keep"), side("keep"), PLAIN, one, other, partner, 100)

    def test_most(self):
        one, other = part_of(PLAIN, ("answer bit.i",)), part_of(PLAIN, ("answer bit.o",))
        partner = partner_of(PLAIN, ("var x bit", "call x f bit.i", "if !on x", "say yes", "else", "end"), ())
        left = side("keep")
        for most, want in ((3, None), (4, "one"), (100, "one")):
            self.assertEqual(self.check(left, left, PLAIN, one, other, partner, most), want)
        self.assertEqual(self.check(left, left, PLAIN, other, one, partner, 100), "other")

    def test_the_other_part_never_ends(self):
        endless = part_of(PLAIN, ("while truth.yes", "end"))
        ever = part_of(PLAIN, ())
        good = part_of(PLAIN, ("answer given",))
        partner = partner_of(PLAIN, ("var x bit", "call x f bit.o", "say yes"), ("answer bit.i",))
        for powers in ((), ("keep",), ALL):
            for modes in (MODES, ("stops", "tabled", "barred", "fresh")):
                table = with_modes(PLAIN, modes)
                for other in (endless, ever):
                    self.assertEqual(self.check(side(*powers), side(), table, good, other, partner, 50), "one")

    def test_an_inner_call_without_a_memory(self):
        # Both do the same in main's calls up to there; an INNER call, whose imports FAIL with inner, tells them apart.
        body = ("var w word", "var x bit", "try", "call x ask given", "catch w", "if !isdeep w", "{}", "else", "end", "end", "answer x")
        tests = (("isbad", ("word",), "truth", ("yes", "no", "no")), ("isdeep", ("word",), "truth", ("no", "yes", "no")), TESTS[1])
        left = (BITS, tests, ("catch",))
        told = (BITS, tests, ALL)
        one, other = [read_part(told, faces(PLAIN), "\n".join(["body f"] + [line.format(row) for line in body] + ["end"]))
                      for row in ("answer bit.i", "answer bit.o")]
        # From the right SIDE deep never comes.
        table = PLAIN[:2] + ((("bad", "deep", "off"), ("bad", "off", "off")) + SAME[2:],) + (MODES,)
        right = (BITS, tests, ("again", "catch"))
        partner = read_partner(right, faces(table), "main\nvar x bit\ncall x f bit.o\nsay yes\nend\nbody ask\nvar y bit\ncall y f bit.i\n"
                               "if !on y\nanswer bit.o\nelse\nfail word.bad\nend\nend")
        self.assertEqual(self.check(left, right, table, one, other, partner, 100), None)
        partner = read_partner(right, faces(table), "main\nvar x bit\ncall x f bit.o\nsay yes\nend\nbody ask\nvar y bit\ncall y f bit.i\n"
                               "if !on y\nanswer bit.o\nelse\nend\nend")
        self.assertEqual(self.check(left, right, table, one, other, partner, 100), "one")
        self.assertEqual(self.check(left, right, table, other, one, partner, 100), "other")
        found = brought_back(left, right, table, one, other, partner, 100)
        self.assertEqual(powers_of(found), ())

    def test_things_without_a_memory(self):
        given, made = ("answer given",), ("var t thing", "make t given", "answer t")
        new = ("var t thing", "make t bit.i", "answer t")
        partner = partner_of(THINGS, ("var t thing", "var u thing", "call t make bit.i", "call t give t", "call u give t",
                                      "if = t u", "say yes", "else", "end"), ())
        for powers in (("same",), ("catch", "same")):
            one, other = part_of(THINGS, given, made), part_of(THINGS, new, made)
            self.assertEqual(self.check(side(*powers), side("same"), THINGS, one, other, partner, 100), "one")
            self.assertEqual(self.check(side(*powers), side("same"), THINGS, other, one, partner, 100), "other")
            self.assertIsNone(self.check(side(*powers), side("same"), with_modes(THINGS, MODES[:3] + ("fresh",)), one, other, partner, 100))

    def test_alike_raws_that_are_two(self):
        # What comes from both PARTS are two RAWS, ALIKE on the right, and what goes back is led to two ALIKE ones.
        kinds = (("num", ("a", "b", "c", "d")), ("truth", ("no", "yes")), ("word", ("bad",)))
        tests = (("next", ("num",), "num", ("a", "c", "b", "d")), ("small", ("num",), "truth", ("no", "no", "no", "yes")))
        way = ("num", "num", ("a", "b", "c", "d"))
        table = ((("f", way, way), ("g", way, way)), (("ask", way, way),), (("bad",), ("bad",), "bad", "bad", "bad"), MODES)
        texts = ["body f\nanswer num.{}\nend\nbody g\nvar x num\nlet x given\nwhile truth.{}\nlet x !next x\nend\nanswer num.d\nend".format(*row)
                 for row in (("a", "no"), ("b", "yes"))]
        main = "main\nvar x num\ncall x f num.a\ncall x g x\nif !small x\nsay yes\nelse\nend\nend\nbody ask\nend"
        for powers in ((), ("keep",)):
            left = (kinds, tests, powers)
            one, other = [read_part(left, faces(table), text) for text in texts]
            partner = read_partner(left, faces(table), main)
            self.assertEqual(self.check(left, left, table, one, other, partner, 100), "one")
            self.assertEqual(self.check(left, left, table, other, one, partner, 100), "other")

    def test_at_the_bounds(self):
        met = 0
        for seed in range(60):
            left, right, table = scenes.full(seed)
            if tight_faults(left, right, table):
                continue
            one, other = [make.lively_part(seed * 2 + at, left, faces(table)) for at in (0, 1)]
            for at in range(12):
                partner = scenes.partner(seed * 100 + at, right, right_faces(table))
                met += self.check(left, right, table, one, other, partner, 1000) is not None
        self.assertGreater(met, 4)


if __name__ == "__main__":
    unittest.main()
