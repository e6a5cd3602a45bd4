"""Runs on HEAPS [38]."""

import collections
import random
import unittest

from besidealone.beside import run_beside
from besidealone.books import is_safe
from besidealone.heapruns import is_collector, run_on_heaps
from besidealone.programtexts import read_part, read_partner
from besidealone.tables import faces, right_faces, with_modes
from tests import make, reference_heaps, scenes
from tests.helpers import ANY, asked, assert_tells, changed
from tests.reference_heapruns import on_heaps
from tests.test_heaps import WORDS, book

BITS = (("bit", ("i", "o")), ("truth", ("no", "yes")), ("word", ("bad", "off")))
SIDE = (BITS, (("on", ("bit",), "truth", ("yes", "no")),), ("again", "catch", "keep", "same"))
WAY, NARROW = ("bit", "bit", ("i", "o")), ("bit", "bit", ("i", ""))
TABLE = ((("give", ("thing",), ("thing",)), ("make", NARROW, ("thing",)), ("take", ("thing",), WAY)), (("ask", WAY, WAY),),
         (("bad", "off"), ("bad", "off"), "bad", "off", "bad"), ("crosses", "live", "let", "kept"))
GOOD = ("kept", 1, 0, 1, 1, "own", "live", "ahead", "index")
PLAIN = ["body give", "var t thing", "answer given", "end", "body make", "var t thing", "make t given", "answer t", "end",
         "body take", "answer bit.i", "end"]


def part(lines=None, table=TABLE):
    return read_part(SIDE, faces(table), "\n".join(lines or PLAIN))


def partner(*main, body=("answer bit.i",), cells=(), table=TABLE):
    names = ["var t thing", "var u thing", "var w word", "var x bit"]
    text = list(cells) + ["main"] + names + list(main) + ["end", "body ask"] + names + list(body) + ["end"]
    return read_partner(SIDE, right_faces(table), "\n".join(text))


class HeapRuns(unittest.TestCase):

    def run_it(self, told, caller, one=None, collector=(), most=200, table=TABLE):
        """The end and the row, which a second telling has to tell, too."""
        given = (SIDE, SIDE, table, one or part(), caller, told, collector, most)
        found = asked(self, run_on_heaps, *given)
        self.assertEqual(found, on_heaps(*given))
        return found

    def test_collectors(self):
        for thing in ((), ((0, 0),), ((0, 5), (1, 5), (10 ** 39, 10 ** 39)), tuple([(at, 1) for at in range(1500)])):
            assert_tells(self, is_collector, (), thing, True)
        for thing in ANY:
            assert_tells(self, is_collector, (), thing, thing == () and type(thing) is tuple)
        for thing in (((1, 0), (1, 0)), ((2, 0), (1, 0)), ((0, -1),), ((-1, 0),), ((True, 0),), ((0, False),), ((0,),), ((0, 0, 0),), [(0, 0)],
                      ([0, 0],), ("00",), (0, 0), (("0", 0),), ((0, None),)):
            assert_tells(self, is_collector, (), thing, False)
        for thing in changed(((3, 4), (5, 6))):
            want = type(thing) is tuple and all(type(row) is tuple and len(row) == 2 and all(type(number) is int and number >= 0 for number in row)
                                                for row in thing)
            want = want and [row[0] for row in thing] == sorted({row[0] for row in thing})
            assert_tells(self, is_collector, (), thing, want)

    def test_events_of_the_part(self):
        found = self.run_it(GOOD, partner("call t make bit.i", "call u give t", "call x take t", "say yes"))
        self.assertEqual(found, ("yes", (("cross",), ("new",), ("out", 0), ("drop", 0), ("home", 0), ("out", 0), ("drop", 0), ("home", 0),
                                         ("cross",), ("drop", 0))))
        lines = ["cell c thing", "body give", "var t thing", "let t given", "let t t", "put c t", "put c given", "make t bit.i", "let given t",
                 "answer given", "end"] + PLAIN[4:]
        found = self.run_it(GOOD, partner("call t make bit.i", "call u give t"), part(lines))
        self.assertEqual(found[1][4:], (("home", 0), ("copy", 0), ("copy", 0), ("drop", 0), ("copy", 0), ("copy", 0), ("drop", 0), ("new",),
                                        ("drop", 0), ("copy", 1), ("drop", 0), ("out", 1), ("drop", 1), ("drop", 1)))
        self.assertEqual(found[0], "end")

    def test_fails_and_ends(self):
        fails = PLAIN[:2] + ["let t given", "fail word.bad", "end"] + PLAIN[4:]
        caller = partner("call t make bit.i", "try", "call u give t", "catch w", "say yes", "end")
        begin = (("cross",), ("new",), ("out", 0), ("drop", 0), ("home", 0), ("copy", 0))
        self.assertEqual(self.run_it(GOOD, caller, part(fails)), ("yes", begin + (("cross",), ("drop", 0), ("drop", 0))))
        stops = with_modes(TABLE, ("stops", "live", "let", "kept"))
        self.assertEqual(self.run_it(GOOD, caller, part(fails, stops), table=stops), ("stops", begin))
        ever = PLAIN[:2] + ["let t given", "end"] + PLAIN[4:]
        self.assertEqual(self.run_it(GOOD, caller, part(ever)), ("ever", begin))
        for most, many in ((0, 0), (1, 1), (2, 2), (3, 4), (4, 4), (5, 5), (6, 6)):
            found = self.run_it(GOOD, caller, part(fails), most=most)
            self.assertEqual(found, ("on", begin[:many]))

    def test_refused_and_barred(self):
        caller = partner("try", "call t make bit.o", "catch w", "call t make bit.i", "end", "say no")
        self.assertEqual(self.run_it(GOOD, caller), ("no", (("cross",), ("cross",), ("new",), ("out", 0), ("drop", 0))))
        lines = PLAIN[:9] + ["body take", "var x bit", "call x ask bit.i", "answer x", "end"]
        caller = partner("call t make bit.i", "put c t", "call x take t", body=("try", "call u give @c", "catch w", "end", "answer bit.i"),
                         cells=("cell c thing",))
        begin = (("cross",), ("new",), ("out", 0), ("drop", 0), ("home", 0), ("cross",))
        end = (("cross",), ("cross",), ("drop", 0))
        self.assertEqual(self.run_it(GOOD, caller, part(lines))[1], begin + (("home", 0), ("out", 0), ("drop", 0)) + end)
        barred = with_modes(TABLE, ("crosses", "live", "barred", "kept"))
        self.assertEqual(self.run_it(GOOD, caller, part(lines, barred), table=barred)[1], begin + (("cross",),) + end)

    def test_imports(self):
        lines = PLAIN[:9] + ["body take", "var w word", "var x bit", "try", "call x ask bit.i", "catch w", "end", "answer bit.i", "end"]
        begin = (("cross",), ("new",), ("out", 0), ("drop", 0), ("home", 0))
        for body, failing, imports, want in (
                (("answer bit.i",), "crosses", "live", (("cross",), ("cross",), ("cross",), ("drop", 0))),
                (("fail word.bad",), "crosses", "live", (("cross",), ("cross",), ("cross",), ("drop", 0))),
                (("fail word.bad",), "stops", "live", (("cross",),)), ((), "crosses", "live", (("cross",),)),
                (("answer bit.i",), "crosses", "tabled", (("cross",), ("drop", 0))), (("fail word.bad",), "stops", "tabled", ())):
            table = with_modes(TABLE, (failing, imports, "let", "kept"))
            caller = partner("call t make bit.i", "call x take t", body=body, table=table)
            self.assertEqual(self.run_it(GOOD, caller, part(lines, table), table=table)[1], begin + want)
        # An INNER body's call of an import is no EVENT.
        lines = ["body give", "var x bit", "var w word", "try", "call x ask bit.i", "catch w", "end", "answer given", "end"] + PLAIN[4:]
        caller = partner("call t make bit.i", "put c t", "call u give t", body=("call u give @c", "answer bit.i"), cells=("cell c thing",))
        self.assertEqual(self.run_it(GOOD, caller, part(lines))[1], begin + (("cross",), ("home", 0), ("out", 0), ("drop", 0), ("cross",), ("out", 0),
                                                                           ("drop", 0)))

    def test_asked_ahead(self):
        # Calls of bodies that are asked ahead of main are no EVENTS; their STEPS count.
        table = with_modes(TABLE, ("crosses", "tabled", "let", "kept"))
        caller = partner("call t make bit.i", "call x take t", body=("try", "call t make bit.i", "catch w", "end", "answer bit.i"), table=table)
        for collector in ((), ((0, 3),), ((3, 3), (6, 4)), ((7, 9),), tuple([(at, at) for at in range(12)])):
            found = self.run_it(GOOD, caller, collector=collector, table=table)
            self.assertEqual(found[0], "end")
        self.assertEqual([self.run_it(GOOD, caller, most=most, table=table)[0] for most in (0, 5, 6, 10, 11)], ["on", "on", "on", "on", "end"])
        self.assertEqual(self.run_it(GOOD, partner("say yes", body=(), table=table), table=table), ("ever", ()))

    def test_the_collector(self):
        caller = partner("call t make bit.i", "call u make bit.i", "let t u", "say yes")
        begin = (("cross",), ("new",), ("out", 0), ("drop", 0), ("cross",), ("new",), ("out", 1), ("drop", 1))
        # STEPS 0, 3, 6 and 7 are the partner's.
        for collector, want in (((), begin), (((0, 4),), begin), (((1, 4),), begin), (((4, 4), (5, 9)), begin),
                                (((3, 4),), begin[:4] + (("move", (4,)),) + begin[4:]), (((6, 2),), begin + (("move", (2, 3)),)),
                                (((7, 2),), begin + (("die", 0), ("move", (2,)))), (((8, 2),), begin),
                                (((6, 1), (7, 0)), begin + (("move", (1, 2)), ("die", 0), ("move", (0,)))),
                                (tuple([(at, 0) for at in range(20)]), begin[:4] + (("move", (0,)),) + begin[4:] + (
                                    ("move", (0, 1)), ("die", 0), ("move", (0,))))):
            self.assertEqual(self.run_it(GOOD, caller, collector=collector), ("yes", want), collector)
        # None is left: then none is moved.
        caller = partner("call t make bit.i", "let x bit.i", "call t make bit.i", "let x bit.o")
        self.assertEqual(self.run_it(("fresh",) + GOOD[1:], partner("call t give @c", cells=("cell c thing",)), collector=((0, 0), (1, 0)))[1], ())
        found = self.run_it(GOOD, caller, collector=((7, 5),))
        self.assertEqual(found[1][-2:], (("die", 0), ("move", (5,))))
        # What is lost by a body's end dies at the next STEP of the partner.
        lines = PLAIN[:9] + ["body take", "var x bit", "call x ask bit.i", "call x ask bit.i", "answer x", "end"]
        caller = partner("call t make bit.i", "call x take t", "say yes", body=("call u make bit.i", "answer bit.i"))
        found = self.run_it(GOOD, caller, part(lines), collector=tuple([(at, 1) for at in range(40)]))
        self.assertEqual([event for event in found[1] if event[0] == "die"], [("die", 1), ("die", 2)])

    def test_the_end_of_steps_and_the_collector(self):
        caller = partner("call t make bit.i", "let x bit.i")
        for most, want in ((3, 4), (4, 5), (5, 5)):
            found = self.run_it(GOOD, caller, collector=((3, 9),), most=most)
            self.assertEqual((found[0], len(found[1])), ("on" if most == 3 else "end", want))

    def test_wrong_ends(self):
        lean = GOOD[:1] + (0,) + GOOD[2:]
        caller = partner("call t make bit.i", "say yes")
        self.assertEqual(self.run_it(lean, caller), ("wrong", (("cross",), ("new",), ("out", 0), ("drop", 0))))
        moved = GOOD[:8] + ("address",)
        caller = partner("call t make bit.i", "call u give t", "say yes")
        self.assertEqual(self.run_it(moved, caller)[0], "yes")
        found = self.run_it(moved, caller, collector=((3, 4),))
        self.assertEqual((found[0], found[1][-2:]), ("wrong", (("home", 0), ("out", 0))))
        # A let of the part, a FAIL, and a crossing at an import's end go WRONG, too.
        lines = ["body give", "var t thing", "make given bit.i", "answer given", "end"] + PLAIN[4:]
        self.assertEqual(self.run_it(("fresh", 1, 0, 1, 0) + GOOD[5:], caller, part(lines)), ("wrong", (
            ("cross",), ("new",), ("out", 0), ("drop", 0), ("home", 0), ("new",), ("drop", 0))))

    def test_same(self):
        # By kept HANDLES a thing that came again is the same one, if the HANDLE is not dead in between.
        rows = ("if = t u", "say yes", "else", "say no", "end")
        caller = partner("call t make bit.i", "call u give t", *rows)
        self.assertEqual(self.run_it(GOOD, caller)[0], "yes")
        self.assertEqual(self.run_it(("fresh",) + GOOD[1:], caller)[0], "no")
        other = partner("call t make bit.i", "call u make bit.i", *rows)
        self.assertEqual(self.run_it(GOOD, other, collector=tuple([(at, at) for at in range(30)]))[0], "no")
        one = part(["cell c thing"] + PLAIN[:2] + ["answer @c", "end", "body make", "var t thing", "make t given", "put c t", "answer t", "end"]
                   + PLAIN[9:])
        lost = partner("call t make bit.i", "call u make bit.i", "let t u", "let x bit.i", "call t give t", "let u t", *rows)
        for collector in ((), tuple([(at, 1) for at in range(40)])):
            found = self.run_it(GOOD, lost, one, collector)
            self.assertEqual(found[0], "yes")
        self.assertIn(("die", 0), found[1])

    def test_many(self):
        met = collections.Counter()
        for seed in range(700):
            source = random.Random(seed)
            left, right, table = scenes.tables(seed)
            if not scenes.has_things(table):
                continue
            one, _ = scenes.parts(seed, left, table)
            for at in range(3):
                caller = make.lively_partner(seed * 3 + at, right, right_faces(table))
                told = book(source)
                if source.random() < 0.5:
                    told = GOOD[:7] + (source.choice(WORDS[2]), "index") if source.random() < 0.6 else ("fresh", 2, source.randint(0, 2), 2, 1) + told[5:]
                steps = source.choice((range(0), range(300), range(0, 300, 7), sorted(source.sample(range(60), 20))))
                collector = tuple([(step, source.randint(0, 4)) for step in steps])
                given = (left, right, table, one, caller, told, collector, 300)
                end, row = found = run_on_heaps(*given)
                self.assertEqual(found, on_heaps(*given))
                if is_safe(told):
                    self.assertNotEqual(end, "wrong")
                if end != "wrong":
                    self.assertEqual(end, run_beside(left, right, with_modes(table, table[3][:3] + (told[0],)), one, caller, 300)[0])
                met[end, is_safe(told)] += 1
                heaps = ("heaps", ((), (), (), ()))
                for event in row:
                    self.assertEqual(heaps[0], "heaps")
                    heaps = reference_heaps.behind(told, heaps[1], event)
                    met[event[0]] += 1
                self.assertEqual(heaps[0] == "wrong", end == "wrong")
        self.assertGreater(met["copy"], 3)
        for key in ("new", "drop", "out", "home", "cross", "die", "move", ("wrong", False), ("yes", True), ("stops", True), ("ever", True)):
            self.assertGreater(met[key], 10, key)

    def test_many_steps(self):
        caller = partner("while truth.yes", "call t make bit.i", "call u give t", "call x take t", "end")
        for told in (GOOD, ("fresh",) + GOOD[1:]):
            for collector in ((), tuple([(at, at) for at in range(0, 40000, 5)])):
                end, row = run_on_heaps(SIDE, SIDE, TABLE, part(), caller, told, collector, 40000)
                self.assertEqual(end, "on")
                self.assertGreater(len(row), 40000)


if __name__ == "__main__":
    unittest.main()
