"""The glue [23] and runs BESIDE [5], [24]."""

import itertools
import unittest

from besidealone.alone import run_alone
from besidealone.beside import run_beside
from besidealone.glue import asked as asked_ahead, came
from besidealone.programtexts import read_part, read_partner
from besidealone.sides import kinds_of, raws_of
from besidealone.tables import faces, right_faces, with_modes
from tests import make, reference_runs
from tests.helpers import asked

LEFT = ((("bit", ("i", "o")), ("truth", ("no", "yes")), ("word", ("bad", "deep", "off"))),
        (("isdeep", ("word",), "truth", ("no", "yes", "no")), ("on", ("bit",), "truth", ("yes", "no"))),
        ("again", "catch", "keep", "same"))
RIGHT = ((("num", ("a", "b", "c")), ("truth", ("no", "yes")), ("word", ("lost", "much"))),
         (("isa", ("num",), "truth", ("yes", "no", "no")), ("ismuch", ("word",), "truth", ("no", "yes"))),
         ("again", "catch", "keep", "same"))
INTO, OUT = ("num", "bit", ("i", "o", "")), ("bit", "num", ("b", "c"))
WORDS = (("lost", "much", "much"), ("off", "deep"), "bad", "lost", "deep")
MODES = [("crosses", "stops"), ("live", "tabled"), ("let", "barred"), ("kept", "fresh")]
TABLE = ((("f", INTO, OUT), ("new", INTO, ("thing",)), ("use", ("thing",), ("thing",))), (("ask", OUT, INTO), ("beg", OUT, INTO)), WORDS,
         ("crosses", "live", "let", "kept"))
LIVE = TABLE[:3] + (("crosses", "live", "let", "kept"),)
TABLED = with_modes(TABLE, ("crosses", "tabled", "let", "kept"))
BODIES = {"f": ["answer given"], "new": ["var t thing", "make t given", "answer t"], "use": ["answer given"]}


def part_of(cells=(), **bodies):
    rows = list(cells)
    for name in ("f", "new", "use"):
        rows += ["body " + name] + bodies.get(name, BODIES[name]) + ["end"]
    return read_part(LEFT, faces(TABLE), "\n".join(rows))


def partner_of(main, ask=("answer num.a",), beg=("answer num.b",), cells=()):
    rows = list(cells) + ["main"] + list(main) + ["end", "body ask"] + list(ask) + ["end", "body beg"] + list(beg) + ["end"]
    return read_partner(RIGHT, right_faces(TABLE), "\n".join(rows))


class Glue(unittest.TestCase):

    def both(self, table, partner, most):
        found = asked(self, asked_ahead, LEFT, RIGHT, table, partner, most)
        self.assertEqual(found, reference_runs.ahead(LEFT, RIGHT, table, partner, most))
        if found is not None:
            self.assertEqual([list(found), [list(rows) for rows in found.values()]],
                             [sorted(found), [sorted(rows) for rows in found.values()]])
        return found

    def test_each_import_and_each_right_raw(self):
        partner = partner_of(["say yes"], ["answer given"], ["if !isa given", "fail word.lost", "else", "fail word.much", "end"])
        want = {"ask": {"b": ("reply", "b"), "c": ("reply", "c")}, "beg": {"b": ("fails", "much"), "c": ("fails", "much")}}
        self.assertEqual(self.both(TABLED, partner, 6), want)
        self.assertIsNone(self.both(TABLED, partner, 5))
        one = (TABLE[0], (("ask", ("bit", "num", ("b", "b")), INTO), TABLE[1][1]), WORDS, TABLED[3])
        self.assertEqual(list(self.both(one, partner, 9)["ask"]), ["b"])

    def test_fresh_cells_each_time(self):
        partner = partner_of([], ["var x num", "let x @n", "put n given", "answer x"], ["answer @n"], ["cell n num a"])
        told = {"b": ("reply", "a"), "c": ("reply", "a")}
        self.assertEqual(self.both(TABLED, partner, 50), {"ask": told, "beg": told})
        part = part_of(f=["var x bit", "call x ask given", "answer x"])
        partner = partner_of(["var y num", "put n num.b", "call y f num.a", "if !isa @n", "say yes", "else", "say no", "end"],
                             ["var x num", "let x @n", "put n num.a", "answer x"], ["answer @n"], ["cell n num a"])
        self.assertEqual(run_beside(LEFT, RIGHT, TABLED, part, partner, 90)[0], "no")

    def test_all_calls_fail(self):
        ask = ["var w word", "var x num", "try", "call x f num.a", "catch w", "if !ismuch w", "answer num.b", "else", "answer num.c", "end",
               "end"]
        for refused, raw in (("lost", "c"), ("much", "b")):
            table = TABLE[:2] + (WORDS[:3] + (refused, "deep"), TABLED[3])
            partner = partner_of([], ask, ["var x num", "call x f x"])
            want = {"ask": {key: ("reply", raw) for key in "bc"}, "beg": {key: ("fails", refused) for key in "bc"}}
            self.assertEqual(self.both(table, partner, 50), want)

    def test_it_does_not_end(self):
        for beg in ([], ["while truth.yes", "end"], ["var t thing", "let t t"], ["var t thing", "var u thing", "call t use u"],
                    ["var w word", "var x num", "while truth.yes", "try", "call x f x", "catch w", "end", "end"]):
            self.assertIsNone(self.both(TABLED, partner_of(["say yes"], beg=beg), 500))
            end = run_beside(LEFT, RIGHT, TABLED, part_of(), partner_of(["say yes"], beg=beg), 500)
            self.assertEqual(end, ("on" if "try" in beg else "ever", (), ()))
            self.assertEqual(run_beside(LEFT, RIGHT, TABLED, part_of(), partner_of(["say yes"], beg=beg), 1), ("on", (), ()))
        self.assertEqual(self.both(TABLED[:1] + ((),) + TABLED[2:], ((), ((), ()), ()), 0), {})

    def test_came(self):
        for modes in itertools.product(*MODES):
            table = with_modes(TABLE, modes)
            for kept, want in ((("reply", "a"), ("reply", "i")), (("reply", "b"), ("reply", "o")), (("reply", "c"), ("failed", "bad")),
                               (("fails", "lost"), ("failed", "off")), (("fails", "much"), ("failed", "deep"))):
                if kept[0] == "fails" and modes[0] == "stops":
                    want = ("stops",)
                self.assertEqual(asked(self, came, LEFT, RIGHT, table, "ask", kept), want)


class Beside(unittest.TestCase):

    def both(self, table, part, partner, most=200):
        found = asked(self, run_beside, LEFT, RIGHT, table, part, partner, most)
        self.assertEqual(found, reference_runs.beside(LEFT, RIGHT, table, part, partner, most))
        return found

    def test_refused_arguments(self):
        main = ["var w word", "var x num", "var y num", "try", "call x f num.c", "catch w", "call y f num.b", "end", "say yes"]
        end, log, seen = self.both(TABLE, part_of(), partner_of(main))
        self.assertEqual([end, log], ["yes", (("call", "f", "o", False), ("answer", "o"))])
        self.assertEqual(seen, (("call", "f", "c"), ("failed", "lost"), ("call", "f", "b"), ("answer", "c")))
        for modes in itertools.product(*MODES):
            # What the glue REFUSES stops nothing, ahead of main neither.
            partner = partner_of(["var x num", "call x f num.c"])
            self.assertEqual(self.both(with_modes(TABLE, modes), part_of(), partner)[0::2],
                             ("fails", (("call", "f", "c"), ("failed", "lost"))))

    def test_a_body_of_the_part_fails(self):
        main = ["var w word", "var x num", "try", "call x f num.a", "catch w", "if !ismuch w", "say yes", "else", "say no", "end", "end"]
        for word, end in (("bad", "no"), ("deep", "yes"), ("off", "yes")):
            part = part_of(f=["fail word." + word])
            found = self.both(LIVE, part, partner_of(main))
            self.assertEqual(found, (end, (("call", "f", "i", False), ("fails", word)),
                                     (("call", "f", "a"), ("failed", {"no": "lost", "yes": "much"}[end]))))
            found = self.both(with_modes(TABLE, ("stops", "live", "let", "kept")), part, partner_of(main))
            self.assertEqual(found, ("stops", (("call", "f", "i", False), ("fails", word)), (("call", "f", "a"),)))

    def test_imports(self):
        part = part_of(f=["var w word", "var x bit", "try", "call x ask given", "catch w", "fail w", "end", "answer x"])
        main = ["var x num", "call x f num.b", "say yes"]
        begin, asks = ("call", "f", "o", False), ("ask", "ask", "o")
        for ask, end, log, seen in (
                (["answer num.a"], "yes", (("reply", "i"), ("answer", "i")), (("reply", "a"), ("answer", "b"))),
                (["answer given"], "fails", (("failed", "bad"), ("fails", "bad")), (("reply", "c"), ("failed", "lost"))),
                (["fail word.lost"], "fails", (("failed", "off"), ("fails", "off")), (("fails", "lost"), ("failed", "much"))),
                ([], "ever", (), ())):
            found = self.both(LIVE, part, partner_of(main, ask))
            self.assertEqual(found, (end, (begin, asks) + log, (("call", "f", "b"), ("ask", "ask", "c")) + seen))
            if ask:
                found = self.both(TABLED, part, partner_of(main, ask))
                self.assertEqual(found, (end, (begin, asks) + log, (("call", "f", "b"),) + seen[1:]))
        stopping = with_modes(TABLE, ("stops", "live", "let", "kept"))
        found = self.both(stopping, part, partner_of(main, ["fail word.lost"]))
        self.assertEqual(found, ("stops", (begin, asks), (("call", "f", "b"), ("ask", "ask", "c"), ("fails", "lost"))))
        found = self.both(with_modes(TABLE, ("stops", "tabled", "let", "kept")), part, partner_of(main, ["fail word.lost"]))
        self.assertEqual(found, ("stops", (begin, asks), (("call", "f", "b"),)))
        # A FAIL that is kept but never asked for stops nothing.
        found = self.both(with_modes(TABLE, ("stops", "tabled", "let", "kept")), part_of(), partner_of(main, ["fail word.lost"]))
        self.assertEqual(found[0], "yes")

    def test_steps_of_what_is_asked_ahead(self):
        partner = partner_of(["var x num", "call x f num.a", "say yes"], ["var x num", "let x num.a", "answer x"])
        # 2 and 2, 1 and 1, then call, answer, say.
        for most in range(12):
            end, log, seen = self.both(TABLED, part_of(), partner, most)
            self.assertEqual(end, "yes" if most >= 9 else "on")
            self.assertEqual(len(log), 0 if most < 7 else 1 if most == 7 else 2)
            self.assertEqual(len(seen), len(log))

    def test_inner_calls(self):
        part = part_of(f=["var w word", "var x bit", "try", "call x ask given", "catch w", "if !isdeep w", "answer bit.o", "else", "fail w",
                          "end", "end", "answer x"])
        main = ["var x num", "call x f num.a", "say yes"]
        ask = ["var x num", "call x f num.b", "answer num.b"]
        end, log, seen = self.both(LIVE, part, partner_of(main, ask))
        self.assertEqual(end, "yes")
        self.assertEqual(log, (("call", "f", "i", False), ("ask", "ask", "i"), ("call", "f", "o", True), ("answer", "o"), ("reply", "o"),
                               ("answer", "o")))
        self.assertEqual(seen[2:4], (("call", "f", "b"), ("answer", "c")))
        barred = with_modes(TABLE, ("crosses", "live", "barred", "kept"))
        end, log, seen = self.both(barred, part, partner_of(main, ask))
        self.assertEqual(end, "fails")
        self.assertEqual(log, (("call", "f", "i", False), ("ask", "ask", "i"), ("failed", "off"), ("fails", "off")))
        self.assertEqual(seen, (("call", "f", "a"), ("ask", "ask", "b"), ("call", "f", "b"), ("failed", "lost"), ("fails", "lost"),
                                ("failed", "much")))
        stopping = with_modes(TABLE, ("stops", "live", "let", "kept"))
        part = part_of(f=["var x bit", "call x ask given", "answer x"])
        end, log, seen = self.both(stopping, part, partner_of(main, ask))
        self.assertEqual([end, log[-1], seen[-1]], ["stops", ("fails", "deep"), ("call", "f", "b")])

    def test_a_barred_call_with_a_thing(self):
        barred = with_modes(TABLE, ("crosses", "live", "barred", "kept"))
        part = part_of(f=["var x bit", "call x ask given", "answer x"])
        ask = ["var t thing", "var w word", "try", "call t use @c", "catch w", "end", "answer num.a"]
        for first, end in ([], "ever"), (["call t new num.a", "put c t"], "yes"):
            main = ["var t thing", "var x num"] + first + ["call x f num.a", "say yes"]
            found = self.both(barred, part, partner_of(main, ask, cells=["cell c thing"]))
            self.assertEqual(found[0], end)
            self.assertEqual(("call", "use", 0) in found[2], end == "yes")

    def test_handles(self):
        cells = ["cell c thing", "cell d truth no"]
        part = part_of(cells, new=["var t thing", "if @d", "else", "make t given", "put c t", "put d truth.yes", "end", "answer @c"],
                       use=["var t thing", "if = given @c", "make t bit.i", "answer t", "else", "answer given", "end"])
        main = ["var s thing", "var t thing", "var u thing", "call s new num.a", "call t new num.b", "call u use t", "call u use u",
                "if = s t", "say yes", "else", "say no", "end"]
        for handles, end in (("kept", "yes"), ("fresh", "no")):
            table = with_modes(TABLE, ("crosses", "live", "let", handles))
            found = self.both(table, part, partner_of(main))
            self.assertEqual(found[0], end)
            self.assertEqual([row for row in found[1] if row[0] == "gave"], [("gave", 0, 0), ("gave", 1, 0), ("gave", 2, 1), ("gave", 3, 1)])
            gave = [("gave", 0, 0), ("gave", 1, 0), ("gave", 2, 1), ("gave", 3, 1)]
            if handles == "fresh":
                gave = [("gave", at, at) for at in range(4)]
            self.assertEqual([row for row in found[2] if row[0] == "gave"], gave)
            self.assertEqual([row[2] for row in found[2] if row[:2] == ("call", "use")], [1, 2])

    def test_a_table_that_leads_each_side_to_itself(self):
        for seed in range(150):
            side = make.side(seed, 4)
            side = side[:2] + (make.POWERS,)
            ways = {kind: (kind, kind, raws_of(side, kind)) for kind in kinds_of(side)}
            told = faces(make.table(seed, side, side))
            exports = [(name, ways.get(takes, ("thing",)), ways.get(answers, ("thing",))) for name, takes, answers in told[0]]
            imports = [(name, ways[takes], ways[answers]) for name, takes, answers in told[1]]
            words = raws_of(side, "word")
            table = (tuple(exports), tuple(imports), (words, words, words[0], words[-1], words[0]), ("crosses", "live", "let", "kept"))
            part, partner = make.lively_part(seed, side, told), make.lively_partner(seed, side, told)
            self.assertEqual(run_beside(side, side, table, part, partner, 300)[:2], run_alone(side, table, part, partner, 300))

    def test_random_programs(self):
        for seed in range(250):
            left, right = make.side(seed, 4), make.side(seed + 5000, 4)
            if seed % 3:
                left, right = left[:2] + (make.POWERS,), right[:2] + (make.POWERS,)
            table = make.table(seed, left, right)
            if seed % 2:
                table = make.level_table(seed, left, right)
            part = make.lively_part(seed, left, faces(table))
            partner = make.lively_partner(seed, right, right_faces(table))
            self.assertEqual(asked_ahead(left, right, table, partner, 99), reference_runs.ahead(left, right, table, partner, 99))
            for most in list(range(12)) + [20, 50, 300]:
                self.assertEqual(run_beside(left, right, table, part, partner, most),
                                 reference_runs.beside(left, right, table, part, partner, most))


if __name__ == "__main__":
    unittest.main()
