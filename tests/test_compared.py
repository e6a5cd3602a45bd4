"""Given PARTS compared [33]."""

import collections
import itertools
import unittest

from besidealone.breaks import parting
from besidealone.compared import compared, is_compared, lots
from besidealone.errors import Nothing, TooMany
from besidealone.programs import powers_of
from besidealone.programtexts import read_part, read_partner
from besidealone.relations import is_paper, paper
from besidealone.sides import with_powers
from besidealone.tables import faces, right_faces, with_modes
from besidealone.tight import split_words, tight_faults
from tests import make, reference, scenes
from tests.cases import CASES
from tests.helpers import ANY, asked, changed_here

ALL = ("again", "catch", "keep", "same")
KINDS = (("bit", ("i", "o")), ("truth", ("no", "yes")), ("word", ("bad", "deep", "off")))
TELLS = (("isbad", ("word",), "truth", ("yes", "no", "no")), ("isdeep", ("word",), "truth", ("no", "yes", "no")),
         ("on", ("bit",), "truth", ("yes", "no")))
WAY = ("bit", "bit", ("i", "o"))
SAME = (("bad", "deep", "off"), ("bad", "deep", "off"), "bad", "bad", "deep")
MODES = ("crosses", "live", "let", "kept")
TABLE = ((("f", WAY, WAY),), (("ask", WAY, WAY),), SAME, MODES)
ALONE = ((("f", WAY, WAY),), (), SAME, MODES)


def side(*powers):
    return (KINDS, TELLS, powers)


def blind(*powers):
    return (KINDS, (), powers)


def part(table, *lines, cells=()):
    text = "\n".join(list(cells) + ["body f", "var t thing", "var w word", "var x bit"] + list(lines) + ["end"])
    return read_part(side(*ALL), faces(table), text)


def counting(table, many, *lines):
    """A PART that counts its calls by so many cells, and answers the other bit, or does these lines, behind the last one."""
    names = ["c" + letter for letter in "abcdefghijklmnop"[:many]]
    block = lines or ["answer bit.o"]
    for name in names[::-1]:
        block = ["if @" + name, "put " + name + " truth.no"] + list(block) + ["else", "put " + name + " truth.yes", "end"]
    return part(table, *block, "answer bit.i", cells=["cell " + name + " truth no" for name in names])


class Compared(unittest.TestCase):

    def told(self, where, left, right, table, one, other):
        """What compared tells, and that all is as it has to be; the name of an error, and its number."""
        given = (left, right, table, where, one, other)
        try:
            found = asked(self, compared, *given)
        except (Nothing, TooMany) as error:
            for thing in (None, ("alike", ((((), ()),), ()))):
                with self.assertRaises(type(error)):
                    is_compared(*given, thing)
            return (type(error).__name__, *getattr(error, "__dict__", {}).values())
        self.assertIs(is_compared(*given, found), True)
        self.assertIn(found[0], ("alike", "parted"))
        if found[0] == "alike":
            self.assertEqual(found[1], paper(*given))
        else:
            own, told = (left, faces(table)) if where == "alone" else (right, right_faces(table))
            self.assertIsNone(paper(*given))
            self.assertTrue(reference.partner_ok(own, told, found[1]))
            self.assertIn(parting(*given, found[1], 200000), ("one", "other"))
        return found

    def unasked(self, where, left, right, table, one, other):
        """Whether Nothing is raised."""
        if "same" in powers_of(one) + powers_of(other):
            return True
        own = left if where == "alone" else right
        if (one[0] or other[0]) and table[1] and ("keep" not in own[2] or (where == "beside" and table[3][1] == "tabled")):
            return True
        if where == "alone":
            return False
        return any(fault[0] == "T1" for fault in tight_faults(left, right, table)) or split_words(left, right, table) is not None

    def test_many(self):
        met = collections.Counter()
        for seed in range(600):
            left, right, table = scenes.tables(seed, True)
            one, other = scenes.parts(seed, left, table, "plain" if seed % 5 else "part")
            for where in ("alone", "beside"):
                found = self.told(where, left, right, table, one, other)
                self.assertEqual(found[0] == "Nothing", self.unasked(where, left, right, table, one, other))
                self.assertEqual(found[0], self.told(where, left, right, table, other, one)[0])
                cells = "cells" if one[0] or other[0] else "none"
                met[where, found[0], cells, "asking" if table[1] else "plain"] += 1
                if found[0] == "parted":
                    met.update({(where, power) for power in powers_of(found[1])})
                own, told = (left, faces(table)) if where == "alone" else (right, right_faces(table))
                tried = scenes.partner(seed, own, told)
                parts = parting(left, right, table, where, one, other, tried, 1000)
                if found[0] in ("alike", "parted"):
                    self.assertFalse(found[0] == "alike" and parts)
                    self.assertIs(is_compared(left, right, table, where, one, other, ("parted", tried)), parts is not None)
        for where, told, cells, asking in itertools.product(("alone", "beside"), ("alike", "parted"), ("cells", "none"), ("asking", "plain")):
            self.assertGreater(met[where, told, cells, asking], 4, (where, told, cells, asking))
        for where in ("alone", "beside"):
            self.assertGreater(met[where, "Nothing", "none", "asking"], 4)
            for power in ("catch", "keep"):
                self.assertGreater(met[where, power], 10)

    def test_nothing(self):
        echo, flat = part(TABLE, "answer given"), part(TABLE, "answer bit.i")
        kept = part(TABLE, "answer given", cells=["cell c bit i"])
        same = part(TABLE, "make t bit.i", "if = t t", "answer bit.i", "else", "end")
        keep, none = side("keep"), side()
        tabled = with_modes(TABLE, ("crosses", "tabled", "let", "kept"))
        for where, left, right, table, one, other, want in (
                ("alone", keep, none, TABLE, echo, kept, "alike"), ("alone", none, keep, TABLE, echo, kept, "Nothing"),
                ("alone", none, keep, ALONE, echo, kept, "alike"), ("beside", none, keep, TABLE, echo, kept, "alike"),
                ("beside", keep, none, TABLE, kept, echo, "Nothing"), ("beside", keep, none, ALONE, kept, echo, "alike"),
                ("beside", keep, keep, tabled, kept, echo, "Nothing"), ("alone", keep, none, tabled, kept, echo, "alike"),
                ("beside", none, none, tabled, flat, echo, "parted"), ("alone", side("same"), none, TABLE, same, flat, "Nothing"),
                ("alone", none, none, TABLE, echo, same, "Nothing"), ("beside", keep, none, TABLE, kept, flat, "Nothing")):
            self.assertEqual(self.told(where, left, right, table, one, other)[0], want)

    def test_nothing_where_alike_raws_are_led_to_unlike_ones(self):
        echo = part(TABLE, "answer given")
        for table in (TABLE, ALONE):
            # The answers of f, and the arguments of ask.
            for left, right, want in ((blind(), side(), "Nothing"), (blind(), blind(), "alike"), (side(), side(), "alike")):
                self.assertEqual(self.told("beside", left, right, table, echo, echo)[0], want)
                self.assertEqual(self.told("alone", left, right, table, echo, echo)[0], "alike")
        flat = ("bit", "bit", ("i", "i"))
        table = ((("f", WAY, flat),), (("ask", WAY, WAY),), SAME, MODES)
        blind_raws = (KINDS, TELLS[:2], ())
        self.assertEqual(self.told("beside", blind_raws, side(), table, echo, echo)[0], "Nothing")
        table = ((("f", WAY, flat),), (("ask", flat, WAY),), SAME, MODES)
        self.assertEqual(self.told("beside", blind_raws, (KINDS, TELLS[2:], ()), table, echo, echo)[0], "alike")
        blind_words = (KINDS, TELLS[2:], ())
        self.assertEqual(self.told("beside", blind_words, side(), TABLE, echo, echo)[0], "Nothing")
        words = TABLE[:2] + ((("bad", "bad", "bad"),) + SAME[1:], MODES)
        self.assertEqual(self.told("beside", blind_words, (KINDS, TELLS[2:], ()), words, echo, echo)[0], "alike")

    def test_too_many(self):
        for table in (TABLE, ALONE):
            for where in ("alone", "beside"):
                keep = side("keep")
                self.assertEqual(self.told(where, keep, keep, table, counting(table, 12), part(table, "answer bit.i")), ("TooMany", 4000))
                found = self.told(where, keep, keep, table, counting(table, 7), part(table, "answer bit.i"))
                self.assertEqual(found[0], "parted")
        # Up to there it goes on for less than 4,000 states, but for more than 200,000 STEPS.
        slow = [("let", "x", ("raw", "bit", raw)) for raw in "io" * 60]
        cells, bodies = counting(ALONE, 11)
        names, statements = bodies[0]
        slow_part = (cells, ((names, tuple(slow) + statements),))
        plain = part(ALONE, "answer bit.i")
        for where in ("alone", "beside"):
            self.assertEqual(self.told(where, side(), side(), ALONE, slow_part, plain), ("TooMany", 200000))
        # Slow at one raw alone: so there is a row that is as short and takes fewer STEPS.
        for table, many, steps in ((TABLE, 10, slow * 3), (ALONE, 11, slow)):
            asking = () if table == ALONE else ("call x ask given",)
            cells, bodies = counting(table, many)
            names, statements = part(table, *asking)[1][0]
            plain = part(table, *asking, "answer bit.i")
            test = ("if", ("do", "on", (("name", "given"),)), tuple(steps), ())
            slow_part = (cells, ((names, statements + (test,) + bodies[0][1]),))
            for where in ("alone", "beside") if table == ALONE else ("beside",):
                found = compared(side("keep"), side("keep"), table, where, slow_part, plain)
                self.assertEqual(found[0], "parted")
                self.assertTrue(parting(side("keep"), side("keep"), table, where, slow_part, plain, found[1], 200000))

    def test_an_other_part_without_an_end(self):
        endless = part(ALONE, "while truth.yes", "make t bit.i", "end")
        for where in ("alone", "beside"):
            for powers in ((), ("keep",)):
                own = side(*powers)
                for one, other in ((endless, part(ALONE, "answer given")), (part(ALONE, "answer given"), endless)):
                    self.assertEqual(self.told(where, own, own, ALONE, one, other), ("TooMany", 200000))
                self.assertEqual(self.told(where, own, own, ALONE, endless, part(ALONE))[0], "alike")
        once, ever = part(TABLE, "call x ask given", "answer x"), part(TABLE, "while truth.yes", "call x ask given", "end")
        for where in ("alone", "beside"):
            self.assertEqual(self.told(where, side(), side(), TABLE, once, ever), ("TooMany", 200000))
            self.assertEqual(self.told(where, side("keep"), side("keep"), TABLE, once, ever)[0], "parted")
            self.assertEqual(self.told(where, side(), side(), TABLE, part(TABLE, "answer given"), ever)[0], "parted")

    def test_inner_calls_that_tell_an_import_what_to_do(self):
        def body(*inner):
            return part(TABLE, "try", "call x ask given", "catch w", "if !isdeep w", *inner, "else", "fail w", "end", "end", "answer x")

        # Of the right words none is led to deep: only an INNER call meets it.
        table = TABLE[:2] + ((SAME[0], ("bad", "bad", "off")) + SAME[2:], MODES)
        left = side("catch")
        for right in (side("again", "catch"), side("again"), side("again", "catch", "keep")):
            for first, second in itertools.permutations((("answer bit.i",), ("answer bit.o",), ("while truth.yes", "end"), ("fail word.bad",)), 2):
                found = self.told("beside", left, right, table, body(*first), body(*second))
                if right[2] == ("again",) and "answer" not in first[0] + second[0]:
                    # Nobody SEES the FAIL.
                    self.assertEqual(found[0], "alike")
                    continue
                self.assertEqual(found[0], "parted", (first, second))
                self.assertIn("again", powers_of(found[1]))
            barred = with_modes(table, ("crosses", "live", "barred", "kept"))
            self.assertEqual(self.told("beside", left, right, barred, body("answer bit.i"), body("answer bit.o"))[0], "alike")

    def test_an_inner_fail_that_nobody_sees(self):
        # The import FAILS by the WORD of the INNER call, and the PARTS catch it.
        def body(word, caught):
            return part(TABLE, "try", "call x ask given", "catch w", "if !isdeep w", "fail word." + word, "else", "end", "if !isbad w",
                        "answer bit." + caught, "else", "end", "end", "answer bit.i")

        left = side("catch")
        for into in (("bad", "deep", "off"), ("bad", "off", "off"), ("off", "off", "off")):
            table = TABLE[:2] + ((SAME[0], into) + SAME[2:], MODES)
            for right in (side("again"), side("again", "keep")):
                for one, other in itertools.permutations([body(*told) for told in itertools.product(("bad", "off"), ("i", "o"))], 2):
                    self.told("beside", left, right, table, one, other)
        table = TABLE[:2] + ((SAME[0], ("off", "bad", "off")) + SAME[2:], MODES)
        found = self.told("beside", left, side("again"), table, body("bad", "o"), body("deep", "o"))
        self.assertEqual(found[0], "parted")

    def test_states(self):
        keep = side("keep")
        flip = part(ALONE, "if @c", "put c truth.no", "else", "put c truth.yes", "end", "answer bit.i", cells=["cell c truth no"])
        plain, third = part(ALONE, "answer bit.i"), counting(ALONE, 2)
        for where in ("alone", "beside"):
            self.assertEqual(self.told(where, keep, keep, ALONE, flip, plain), ("alike", (((("no",), ()), (("yes",), ())), ())))
            found = self.told(where, keep, side(), ALONE, third, plain)
            self.assertEqual(found[0], "parted")
            self.assertEqual(found[1][0], ())

    def test_is_compared(self):
        keep = side("keep")
        echo, last = part(ALONE, "answer given"), part(ALONE, "let x @c", "put c given", "answer x", cells=["cell c bit o"])
        given = (keep, keep, ALONE, "alone", echo, last)
        found = compared(*given)
        for thing in ANY:
            self.assertIs(asked(self, is_compared, *given, thing), False)
        for thing in changed_here(found):
            self.assertIs(is_compared(*given, thing), thing == found)
        good = read_partner(keep, faces(ALONE), "main\nvar x bit\ncall x f bit.i\nif !on x\nsay yes\nelse\nend\nend")
        bad = read_partner(keep, faces(ALONE), "main\nvar x bit\ncall x f bit.o\nif !on x\nsay yes\nelse\nend\nend")
        for thing, want in ((("parted", good), True), (("parted", bad), False), (("alike", good), False), (["parted", good], False),
                            (("parted", good, ()), False), (("parted",), False), (("alike", ((((), ("o",)),), ())), False),
                            (("parted", echo), False), (("parted", None), False)):
            self.assertIs(asked(self, is_compared, *given, thing), want)
        given = (keep, blind("keep"), ALONE[:1] + ALONE[1:], "beside", echo, last)
        shown = compared(*given)
        self.assertEqual(shown[0], "alike")
        states, tokens = shown[1]
        every = tuple(sorted(set(states) | {((), ("i",)), ((), ("o",))}))
        content = ("truth", "no")
        for thing in ((every, tokens), (states, ((content, content),)), ((), ()), (states[:-1], tokens), (states, None), None, (states,)):
            self.assertIs(asked(self, is_compared, *given, ("alike", thing)), is_paper(*given, thing))
            self.assertIs(is_compared(*given, ("parted", thing)), False)

    def test_lots(self):
        keep = side("keep")
        parts = [part(ALONE, *lines) for lines in (("answer given",), ("answer bit.i",), (), ("let x given", "answer x"), ("fail word.bad",),
                                                   ("if !on given", "answer bit.i", "else", "end", "answer given"))]
        for told in (tuple(parts), parts):
            self.assertEqual(asked(self, lots, keep, keep, ALONE, "alone", told), ((0, 3, 5), (1,), (2, 4)))
        catch = side("catch")
        self.assertEqual(lots(catch, catch, ALONE, "alone", parts), ((0, 3, 5), (1,), (2,), (4,)))
        self.assertEqual(lots(keep, catch, ALONE, "beside", parts), ((0, 3, 5), (1,), (2,), (4,)))
        self.assertEqual(lots(catch, keep, ALONE, "beside", parts[::-1]), ((0, 2, 5), (1, 3), (4,)))
        self.assertEqual([asked(self, lots, keep, keep, ALONE, "alone", told) for told in ((), [])], [(), ()])
        # Of one alone nothing is compared; of two the first one is.
        same = part(ALONE, "make t bit.i", "if = t t", "answer bit.i", "else", "end")
        self.assertEqual(lots(side("same"), keep, ALONE, "alone", [same]), ((0,),))
        with self.assertRaises(Nothing):
            lots(side("same"), keep, ALONE, "alone", [same, same])
        with self.assertRaises(TooMany) as caught:
            lots(keep, keep, ALONE, "alone", (parts[1], parts[1], counting(ALONE, 12)))
        self.assertEqual(caught.exception.most, 4000)

    def test_lots_of_many(self):
        for seed in range(60):
            left, right, table = scenes.tables(seed, True)
            left, right = with_powers(left, left[2]), with_powers(right, right[2])
            one, _ = scenes.parts(seed, left, table, "plain")
            parts = [one] + [make.varied(seed * 5 + at, left, one) for at in range(4)]
            parts = [own for own in parts if reference.part_ok(left, faces(table), own)]
            for where in ("alone", "beside"):
                try:
                    told = [[compared(left, right, table, where, own, new)[0] == "alike" for new in parts] for own in parts]
                    found = asked(self, lots, left, right, table, where, parts)
                except (Nothing, TooMany):
                    continue
                self.assertEqual(sorted(at for lot in found for at in lot), list(range(len(parts))))
                self.assertEqual([lot[0] for lot in found], sorted(lot[0] for lot in found))
                for one_at, other_at in itertools.product(range(len(parts)), repeat=2):
                    together = any(one_at in lot and other_at in lot for lot in found)
                    self.assertEqual(told[one_at][other_at], together)

    def test_broken_tables(self):
        # T1 holds, and words too: compared tells also where the TABLE is not tight, or not faithful.
        left, right, table = CASES["an import"]
        one, other = [read_part(with_powers(left, ALL), faces(table), "body f\nvar w word\nvar x bit\ntry\ncall x ask given\ncatch w\nanswer bit."
                                + raw + "\nend\nanswer x\nend") for raw in "io"]
        for mine, theirs in itertools.product((("catch",), ("catch", "keep")), ((), ("keep",), ALL)):
            for modes in itertools.product(*make.MODES):
                own = with_modes(table, modes)
                for where in ("alone", "beside"):
                    found = self.told(where, with_powers(left, mine), with_powers(right, theirs), own, one, other)
                    inner = "again" in theirs and modes[1:3] == ("live", "let")
                    self.assertEqual(found[0], "alike" if where == "beside" and modes[0] == "stops" and not inner else "parted")

    def test_at_the_bounds(self):
        met = collections.Counter()
        for seed in range(10):
            left, right, table = scenes.full(seed, True)
            one, other = scenes.parts(seed, left, table, "plain")
            for where in ("alone", "beside"):
                met[self.told(where, left, right, table, one, other)[0]] += 1
        self.assertGreater(met["alike"], 3)
        self.assertGreater(met["parted"], 3)


if __name__ == "__main__":
    unittest.main()
