"""PARTS that catch what comes through an import, or go on without an end: compared [33], brought back [31], led over [32]."""

import collections
import itertools
import unittest

from besidealone.alone import run_alone
from besidealone.back import brought_back, replaying
from besidealone.breaks import parting
from besidealone.compared import compared, is_compared, lots
from besidealone.errors import Nothing, NotRight, TooMany
from besidealone.over import led_over
from besidealone.programs import is_partner, powers_of
from besidealone.programtexts import read_part, read_partner
from besidealone.relations import paper
from besidealone.sides import with_powers
from besidealone.tables import faces, right_faces, with_modes
from tests import catching, reference
from tests.catching import KINDS, TELLS, WAY
from tests.helpers import asked
from tests.reference_parted import is_parted

WORDS = ("bad", "deep", "off")
# No word is led to deep: so only an INNER call meets it.
UNMET = (WORDS, ("bad", "bad", "off"), "bad", "bad", "deep")
MODES = ("crosses", "live", "let", "kept")
ASK = (("ask", WAY, WAY),)
TABLE = ((("f", WAY, WAY),), ASK, UNMET, MODES)
BOTH = ((("f", WAY, WAY), ("g", WAY, WAY)), ASK, UNMET, MODES)
POWERS = (("again", "catch"), ("again", "catch", "keep"))
# What a body does that goes on without an end: in an INNER call, and in any one.
ASKING = ("while truth.yes", "try", "call x ask given", "catch w", "end", "end")
MAKING = ("while truth.yes", "make t bit.i", "end")


def side(*powers):
    return (KINDS, TELLS, powers)


FULL = side("again", "catch", "keep", "same")


def part(table, *bodies):
    rows = []
    for name, lines in zip([row[0] for row in table[0]], bodies):
        rows += ["body " + name, "var t thing", "var w word", "var x bit", *lines, "end"]
    return read_part(FULL, faces(table), "\n".join(rows))


def at_deep(*lines):
    """A body that does these lines where an INNER call's import FAILS, and else what comes of the import."""
    return ("try", "call x ask given", "catch w", "if !isdeep w", *lines, "else", "fail w", "end", "end", "answer x")


def by_given(caught, *inner):
    """A body that asks at i, and does these lines where this FAILS, or at o."""
    return ("if !on given", "try", "call x ask given", "catch w", *caught, "end", "else", *inner, "end", "answer bit.i")


class Case(unittest.TestCase):

    def told(self, where, left, right, table, one, other):
        """What compared tells, both ways about; all is as it has to be."""
        words = []
        for parts in ((one, other), (other, one)):
            given = (left, right, table, where, *parts)
            try:
                found = asked(self, compared, *given)
            except (Nothing, TooMany) as error:
                with self.assertRaises(type(error)):
                    is_compared(*given, ("parted", ()))
                words.append(error.most if isinstance(error, TooMany) else "nothing")
                continue
            words.append(found[0])
            self.assertIs(is_compared(*given, found), True)
            if found[0] == "alike":
                self.assertEqual(found[1], paper(*given))
            else:
                own, told = (left, faces(table)) if where == "alone" else (right, right_faces(table))
                self.assertTrue(reference.partner_ok(own, told, found[1]))
                self.assertIn(parting(*given, found[1], 200000), ("one", "other"))
                self.powers = powers_of(found[1])
        self.assertEqual(words[0], words[1])
        return words[0]


class Compared(Case):

    def test_many(self):
        met = collections.Counter()
        for seed in range(250):
            left, right, table, one, other = catching.scene(seed)
            for where in ("alone", "beside"):
                word = self.told(where, left, right, table, one, other)
                met[where, word] += 1
                if word == "parted":
                    met.update({(where, power) for power in self.powers})
                if word in ("alike", 200000):
                    # No PARTNER parts them so that both runs end.
                    found = is_parted(left, right, table, where, one, other, 2, 500)
                    self.assertIn(found, (False, None), (seed, where))
                    met[where, word, found] += 1
        for where in ("alone", "beside"):
            self.assertGreater(met[where, "parted"], 90)
            self.assertGreater(met[where, "catch"], 10)
            self.assertGreater(met[where, "alike", False], 40)
            self.assertGreater(met[where, 200000, False], 8)

    def test_an_inner_call_that_answers_or_fails(self):
        # Whatever comes, the PART catches what comes through the import, and answers.
        for caught in (("answer bit.i",), MAKING, ("call x ask bit.o", "answer x")):
            for ends in itertools.combinations((("answer bit.i",), ("answer bit.o",), ("fail word.bad",), ("fail word.off",)), 2):
                one, other = [part(TABLE, by_given(caught, *at_deep(*end))) for end in ends]
                for powers, where in itertools.product(POWERS, ("alone", "beside")):
                    self.assertEqual(self.told(where, side(*powers), side(*powers), TABLE, one, other), "parted")
                    self.assertTrue(where == "alone" or "again" in self.powers)
                    table = with_modes(TABLE, ("crosses", "live", "barred", "kept"))
                    word = self.told(where, side(*powers), side(*powers), table, one, other)
                    self.assertEqual(word, "parted" if where == "alone" else "alike")

    def test_an_inner_call_that_answers_or_fails_unseen(self):
        # The right SIDE can't catch: by an INNER call that FAILS its import FAILS.
        left = side("catch")
        met = collections.Counter()
        for powers in (("again",), ("again", "keep")):
            for caught in (("answer bit.i",), ("answer bit.o",), MAKING, ("while truth.yes", "end")):
                for ends in itertools.permutations((("answer bit.i",), ("answer bit.o",), ("fail word.bad",), ("fail word.off",)), 2):
                    one, other = [part(TABLE, by_given(caught, *at_deep(*end))) for end in ends]
                    word = self.told("beside", left, side(*powers), TABLE, one, other)
                    found = is_parted(left, side(*powers), TABLE, "beside", one, other, 3, 3000)
                    self.assertEqual(word == "parted", found, (powers, caught, ends))
                    met[powers, word] += 1
        for powers in (("again",), ("again", "keep")):
            self.assertGreater(met[powers, "parted"], 10)
            self.assertGreater(met[powers, "alike"], 5)

    def test_words_that_only_an_import_tells_apart(self):
        # Both INNER calls FAIL, by two words that are led out and in again to unlike ones; nobody SEES it.
        def body(word, raw):
            return part(TABLE, ("try", "call x ask given", "catch w", "if !isdeep w", "fail word." + word, "else", "end", "if !isbad w",
                                "answer bit." + raw, "else", "end", "end", "answer bit.i"))

        parts = [body(word, raw) for word in ("bad", "off") for raw in "io"]
        for into in itertools.product(WORDS, repeat=3):
            table = TABLE[:2] + ((WORDS, into) + UNMET[2:], MODES)
            for powers in (("again",), ("again", "keep")):
                for one, other in itertools.combinations(parts, 2):
                    found = self.told("beside", side("catch"), side(*powers), table, one, other)
                    self.assertIn(found, ("alike", "parted"))

    def test_an_inner_call_without_an_end_where_another_one_ends(self):
        for ends in itertools.permutations((("answer bit.i",), ("answer bit.o",), ("fail word.off",)), 2):
            for endless in (ASKING, MAKING):
                one = part(BOTH, at_deep("answer bit.i"), at_deep(*ends[0]))
                other = part(BOTH, at_deep(*endless), at_deep(*ends[1]))
                alike = part(BOTH, at_deep(*endless), at_deep(*ends[0]))
                for powers, where in itertools.product(POWERS, ("alone", "beside")):
                    given = (where, side(*powers), side(*powers))
                    self.assertEqual(self.told(*given, BOTH, one, other), "parted")
                    # ALONE the import may FAIL by deep, and, if asked once more, not come back.
                    is_over = where == "alone" and "keep" in powers and endless == ASKING
                    self.assertEqual(self.told(*given, BOTH, one, alike), "parted" if is_over else 200000)

    def test_a_choice_without_an_end_where_another_one_ends(self):
        # Where ask answers the other one asks ever again; where it FAILS it answers otherwise.
        once = part(TABLE, ("try", "call x ask given", "catch w", "answer bit.i", "end", "answer x"))
        ever = part(TABLE, ("try", "while truth.yes", "call x ask given", "end", "catch w", "answer bit.o", "end"))
        same = part(TABLE, ("try", "while truth.yes", "call x ask given", "end", "catch w", "answer bit.i", "end"))
        for powers, where in itertools.product((("catch",), ("catch", "keep")), ("alone", "beside")):
            given = (where, side(*powers), side(*powers), TABLE, once)
            self.assertEqual(self.told(*given, ever), "parted")
            self.assertEqual(self.told(*given, same), "parted" if "keep" in powers else 200000)
            tabled = with_modes(TABLE, ("crosses", "tabled", "let", "kept"))
            given = (where, side(*powers), side(*powers), tabled, once)
            self.assertEqual(self.told(*given, ever), "parted")
            self.assertEqual(self.told(*given, same), "parted" if where == "alone" and "keep" in powers else 200000)

    def test_a_row_without_an_end_where_another_one_ends(self):
        # At i the other one goes on without an end; at o it doesn't.
        for endless in (MAKING, ("while truth.yes", "make t given", "let x bit.o", "end")):
            one = part(TABLE, ("answer bit.i",))
            other = part(TABLE, ("if !on given", *endless, "else", "end", "answer bit.o"))
            same = part(TABLE, ("if !on given", *endless, "else", "end", "answer bit.i"))
            for powers, where in itertools.product(((), ("keep",)), ("alone", "beside")):
                given = (where, side(*powers), side(*powers), TABLE, one)
                self.assertEqual(self.told(*given, other), "parted")
                self.assertEqual(self.told(*given, same), 200000)

    def test_two_exports_and_two_imports(self):
        kinds = (("num", ("a", "b")), ("truth", ("no", "yes")), ("word", ("bad",)))
        tells = (("first", ("num",), "truth", ("yes", "no")),)
        also = ("also", ("num", "truth", ("no", "no")), ("num", "truth", ("yes", "yes")))
        get = ("get", ("num", "num", ("b", "b")), ("num", "num", ("b", "b")))
        imports = (("ask", ("truth", "num", ("a", "a")), ("num", "num", ("b", "b"))),
                   ("tell", ("num", "truth", ("yes", "yes")), ("num", "truth", ("no", "no"))))
        words = (("bad",), ("bad",), "bad", "bad", "bad")
        full = (kinds, tells, ("again", "catch", "keep"))
        names = "\nvar t thing\nvar vnum num\nvar vtruth truth\nvar vword word\n"
        first = "body also" + names + """try\ncall vnum ask vtruth\ncatch vword\nlet vnum num.b\nend
            if vtruth\nanswer num.a\nelse\nend\nanswer vnum\nend\nbody get""" + names
        told = faces(((also, get), imports, words, MODES))
        one = read_part(full, told, first + """try\ncall vtruth tell num.a\ncatch vword\nlet vtruth truth.yes\nend
            if vtruth\nanswer vnum\nelse\nend\nmake t num.b\nlook vnum t\nanswer vnum\nend""")
        other = read_part(full, told, first + """call vtruth tell vnum\ntry\ncall vnum ask vtruth\ncatch vword\nlet vnum num.b\nend
            make t truth.yes\nlook vtruth t\nanswer num.b\nend""")
        met = collections.Counter()
        for modes in itertools.product(("crosses", "stops"), ("live", "tabled"), ("let", "barred"), ("kept",)):
            table = ((also, get), imports, words, modes)
            for mine, theirs in itertools.product((("catch",), *POWERS), ((), ("again",), ("catch",), *POWERS)):
                for where in ("alone", "beside"):
                    # Both num are ALIKE: so only what FAILS, or doesn't come back, is told apart.
                    given = (where, (kinds, (), mine), (kinds, (), theirs), table, one, other)
                    word = self.told(*given)
                    met[where, word] += 1
                    if "keep" not in (mine if where == "alone" else theirs) or modes[1] == "tabled":
                        found = is_parted(given[1], given[2], table, where, one, other, 3, 1500)
                        self.assertIn(found, (word == "parted", None), given)
        self.assertEqual(met, {("alone", "parted"): 120, ("beside", "parted"): 120})

    def test_lots(self):
        met = collections.Counter()
        for seed in range(80):
            left, right, table, one, other = catching.scene(seed)
            writer = catching.Writer(seed, [row[0] for row in table[1]], one[0])
            third = (one[0], tuple([(names, writer.changed(rows)) for names, rows in one[1]]))
            parts = [one, other, third, one]
            for where in ("alone", "beside"):
                told = {}
                for at, own in itertools.combinations(range(4), 2):
                    try:
                        told[at, own] = compared(left, right, table, where, parts[at], parts[own])[0] == "alike"
                    except (Nothing, TooMany) as error:
                        told[at, own] = type(error)
                if any(isinstance(one, type) for one in told.values()):
                    met["raised"] += 1
                    continue
                found = asked(self, lots, left, right, table, where, parts)
                self.assertEqual(sorted(at for lot in found for at in lot), list(range(4)))
                for at, own in told:
                    self.assertEqual(told[at, own], any(at in lot and own in lot for lot in found))
                met[where, len(found)] += 1
        for where in ("alone", "beside"):
            self.assertGreater(min(met[where, 1], met[where, 2], met[where, 3]), 3)

    def test_lots_of_what_is_caught(self):
        caught = ("answer bit.i",)
        ends = (("answer bit.i",), ("fail word.bad",), ("answer bit.o",), ("fail word.bad",), ("answer bit.i",))
        parts = [part(TABLE, by_given(caught, *at_deep(*end))) for end in ends]
        for powers, where in itertools.product(POWERS, ("alone", "beside")):
            found = asked(self, lots, side(*powers), side(*powers), TABLE, where, parts)
            self.assertEqual(found, ((0, 4), (1, 3), (2,)))


class Exchanged(Case):

    PARTNER = """main
    var x bit
    call x f bit.i
    say yes
    end
    body ask
    var w word
    var x bit
    try
    call x f bit.o
    catch w
    while truth.yes
    end
    end
    answer bit.i
    end"""

    def test_the_other_one_goes_on_without_an_end(self):
        table = TABLE[:2] + ((WORDS, WORDS) + UNMET[2:], MODES)
        own = side("again", "catch", "keep")
        one, other = [part(table, by_given(MAKING, last)) for last in ("answer bit.o", "fail word.bad")]
        partner = read_partner(own, faces(table), self.PARTNER)
        for parts, said in (((one, other), "one"), ((other, one), "other")):
            for where, there, make in (("beside", "alone", brought_back), ("alone", "beside", led_over)):
                self.assertEqual(parting(own, own, table, where, *parts, partner, 1000), said)
                made = asked(self, make, own, own, table, *parts, partner, 1000)
                self.assertEqual(parting(own, own, table, there, *parts, made, 200000), said)
        end, log = run_alone(own, table, one, partner, 1000)
        made = asked(self, replaying, own, table, log)
        self.assertEqual([run_alone(own, table, own_part, made, 200000)[0] for own_part in (one, other)], ["yes", "ever"])

    def test_many(self):
        met = collections.Counter()
        for seed in range(1500):
            left, right, table, one, other = catching.scene(seed, seed % 5 > 0)
            left, right = [with_powers(own, tuple(sorted({*own[2], "again"}))) for own in (left, right)]
            partner = catching.partner(seed, faces(table))
            for where, there, own, make in (("beside", "alone", right, brought_back), ("alone", "beside", left, led_over)):
                self.assertTrue(is_partner(own, faces(table), partner) or "catch" not in own[2])
                said = parting(left, right, table, where, one, other, partner, 1000) if "catch" in own[2] else None
                try:
                    made = make(left, right, table, one, other, partner, 1000) if said else ()
                except NotRight:
                    continue
                if said:
                    self.assertEqual(parting(left, right, table, there, one, other, made, 200000), said, (seed, where))
                    met[where, "again" in powers_of(made)] += 1
        for where in ("alone", "beside"):
            self.assertGreater(met[where, True], 20)
            self.assertGreater(met[where, False], 60)


if __name__ == "__main__":
    unittest.main()
