"""[18] tables."""

import itertools
import unittest

from besidealone.tables import (export_of, faces, import_of, into_word, is_faces, is_level, is_passable, is_table, led,
                                let_by, met, out_word, right_faces, twice, ways_of, with_modes, with_way)
from tests import make, reference
from tests.helpers import ANY, asked, assert_tells, changed

THING = ("thing",)
TRUTH = ("truth", ("no", "yes"))
LEFT = ((("num", ("a", "b", "c")), TRUTH, ("word", ("low", "odd"))),
        (("first", ("num",), "truth", ("yes", "no", "no")),), ())
RIGHT = ((("sign", ("x", "y")), TRUTH, ("word", ("bad",))), (), ("again",))
NUMS, SIGNS = ("sign", "num", ("a", "")), ("num", "sign", ("x", "x", "y"))
TRUTHS = ("truth", "truth", ("no", "yes"))
EXPORTS = (("eat", THING, TRUTHS), ("f", NUMS, SIGNS), ("new", TRUTHS, THING))
IMPORTS = (("ask", SIGNS, ("sign", "num", ("", "b"))), ("tell", TRUTHS, TRUTHS))
WORDS = (("bad", "bad"), ("odd",), "low", "bad", "odd")
MODES = ("crosses", "live", "let", "kept")
TABLE = (EXPORTS, IMPORTS, WORDS, MODES)
FACES = ((("eat", "thing", "truth"), ("f", "num", "num"), ("new", "truth", "thing")),
         (("ask", "num", "num"), ("tell", "truth", "truth")))


class IsFaces(unittest.TestCase):

    def test_faces(self):
        assert_tells(self, is_faces, (LEFT,), FACES, True)
        assert_tells(self, is_faces, (RIGHT,), FACES, False)
        for exports, imports, want in (
                ((("f", "num", "truth"),), (), True), ((("f", "thing", "thing"),), (), True),
                ((("f", "truth", "truth"),), (("g", "truth", "num"),), True), ((), (), False),
                ((), (("g", "truth", "num"),), False), ((("f", "word", "num"),), (), False),
                ((("f", "num", "word"),), (), False), ((("f", "num", "sign"),), (), False),
                ((("f", "num", "num"),), (("g", "thing", "num"),), False),
                ((("f", "num", "num"),), (("g", "num", "thing"),), False),
                ((("f", "num", "num"),), (("g", "word", "num"),), False),
                ((("f", "num", "num"),), (("g", "num", "word"),), False),
                ((("f", "num", "num"),), (("f", "num", "num"),), False),
                ((("f", "num", "num"), ("f", "num", "truth")), (), False),
                ((("g", "num", "num"), ("f", "num", "num")), (), False),
                ((("f", "num", "num"),), (("h", "num", "num"), ("g", "num", "num")), False),
                ((("F", "num", "num"),), (), False), ((("f", "num"),), (), False), ([("f", "num", "num")], (), False),
                ((["f", "num", "num"],), (), False), ((("f", "num", "num"),), [], False)):
            assert_tells(self, is_faces, (LEFT,), (exports, imports), want)
        for thing in (FACES[:1], FACES + ((),), list(FACES), FACES[::-1]):
            assert_tells(self, is_faces, (LEFT,), thing, False)

    def test_one_thing_changed_at_any_depth(self):
        told = {True: 0, False: 0}
        for thing in changed(FACES, ("num", "truth", "word", "sign", "thing", "ask", "f", "zz")):
            want = reference.faces_ok(LEFT, thing)
            told[want] += 1
            self.assertIs(is_faces(LEFT, thing), want, thing)
        self.assertGreater(min(told.values()), 20)

    def test_any_value(self):
        for thing in ANY:
            assert_tells(self, is_faces, (LEFT,), thing, False)
            for near in ((thing, ()), ((("f", "num", "num"),), thing), (((thing, "num", "num"),), ()),
                         ((("f", thing, "num"),), ()), ((("f", "num", "num"),), (("g", "num", thing),))):
                assert_tells(self, is_faces, (LEFT,), near, reference.faces_ok(LEFT, near))


class IsTable(unittest.TestCase):

    def test_tables(self):
        assert_tells(self, is_table, (LEFT, RIGHT), TABLE, True)
        assert_tells(self, is_table, (LEFT, RIGHT), (EXPORTS[:1], ()) + TABLE[2:], True)
        for seed in range(60):
            left, right = make.side(seed), make.side(seed + 1000)
            table = make.table(seed, left, right)
            assert_tells(self, is_table, (left, right), table, True)
            assert_tells(self, is_table, (right, left), table, reference.table_ok(right, left, table))

    def test_sides_exchanged(self):
        assert_tells(self, is_table, (RIGHT, LEFT), TABLE, False)
        assert_tells(self, is_table, (LEFT, LEFT), TABLE, False)
        assert_tells(self, is_table, (RIGHT, RIGHT), TABLE, False)

    def test_one_thing_changed_at_any_depth(self):
        words = ("num", "sign", "truth", "word", "thing", "a", "c", "x", "y", "", "no", "yes", "low", "odd", "bad",
                 "stops", "live", "kept", "ask", "f")
        told = {True: 0, False: 0}
        for thing in changed(TABLE, words):
            want = reference.table_ok(LEFT, RIGHT, thing)
            told[want] += 1
            self.assertIs(is_table(LEFT, RIGHT, thing), want, thing)
        self.assertGreater(told[True], 50)
        self.assertGreater(told[False], 3000)

    def test_faces(self):
        for exports, imports in (((), IMPORTS), (EXPORTS[::-1], IMPORTS), (EXPORTS, IMPORTS[::-1]), (EXPORTS * 2, ()),
                                 (EXPORTS, (("f", TRUTHS, TRUTHS),)), (EXPORTS, (("ask", THING, TRUTHS),)),
                                 (EXPORTS, (("ask", TRUTHS, THING),)), ((("f", SIGNS, SIGNS),), ()),
                                 ((("f", NUMS, NUMS),), ()), ((("f", NUMS, ("num", "sign", ("x", "", "y"))),), ()),
                                 ((("f", NUMS, ("word", "sign", ("x", "x"))),), ()),
                                 ((("f", ("word", "num", ("a",)), SIGNS),), ()),
                                 ((("f", ("sign", "word", ("low", "low")), SIGNS),), ()),
                                 ((("f", NUMS, ("num", "word", ("bad", "bad", "bad"))),), ()),
                                 ((("f", ("sign", "num", ("a",)), SIGNS),), ()),
                                 ((("f", ("sign", "num", ("a", "z")), SIGNS),), ()),
                                 ((("f", ("thing", "num", ()), SIGNS),), ()), ((("f", NUMS, "thing"),), ()),
                                 ((("f", NUMS, ["thing"]),), ()), ((("f", NUMS, ("thing", "thing")),), ()),
                                 (EXPORTS, (("ask", NUMS, SIGNS),)),
                                 (EXPORTS, (("ask", ("num", "sign", ("x", "", "y")), NUMS),))):
            assert_tells(self, is_table, (LEFT, RIGHT), (exports, imports, WORDS, MODES), False)
        refusing = ("sign", "num", ("", ""))
        table = ((("f", refusing, SIGNS),), (("g", SIGNS, refusing),), WORDS, MODES)
        assert_tells(self, is_table, (LEFT, RIGHT), table, True)

    def test_words(self):
        for words in ((("bad",), ("odd",), "low", "bad", "odd"), (("bad",) * 3, ("odd",), "low", "bad", "odd"),
                      (("bad", ""), ("odd",), "low", "bad", "odd"), (("bad", "bad"), ("",), "low", "bad", "odd"),
                      (("bad", "low"), ("odd",), "low", "bad", "odd"), (("bad", "bad"), ("bad",), "low", "bad", "odd"),
                      (("bad", "bad"), ("odd", "odd"), "low", "bad", "odd"), (("bad", "bad"), (), "low", "bad", "odd"),
                      (("bad", "bad"), ("odd",), "bad", "bad", "odd"), (("bad", "bad"), ("odd",), "low", "low", "odd"),
                      (("bad", "bad"), ("odd",), "low", "bad", "bad"), (("bad", "bad"), ("odd",), "low", "bad"),
                      WORDS + ("odd",), list(WORDS), (["bad", "bad"],) + WORDS[1:], WORDS[:1] + (["odd"],) + WORDS[2:]):
            assert_tells(self, is_table, (LEFT, RIGHT), (EXPORTS, IMPORTS, words, MODES), False)

    def test_modes(self):
        for modes in itertools.product(*make.MODES):
            assert_tells(self, is_table, (LEFT, RIGHT), TABLE[:3] + (modes,), True)
            for bad in (modes[:3], modes + ("kept",), modes[::-1], list(modes), modes[1:] + modes[:1],
                        ("", *modes[1:]), (None, *modes[1:]), (modes[0], modes[1], modes[2], True)):
                assert_tells(self, is_table, (LEFT, RIGHT), TABLE[:3] + (bad,), False)

    def test_any_value(self):
        for thing in ANY:
            assert_tells(self, is_table, (LEFT, RIGHT), thing, False)
            way = ("sign", "num", ("a", thing))
            for near in ((thing,) + TABLE[1:], TABLE[:1] + (thing,) + TABLE[2:], TABLE[:2] + (thing,) + TABLE[3:],
                         TABLE[:3] + (thing,), ((("f", thing, THING),), ()) + TABLE[2:],
                         ((("f", way, THING),), ()) + TABLE[2:], ((("f", ("sign", "num", thing), THING),), ()) + TABLE[2:]):
                assert_tells(self, is_table, (LEFT, RIGHT), near, reference.table_ok(LEFT, RIGHT, near))


class Asking(unittest.TestCase):

    def test_faces(self):
        self.assertEqual(asked(self, faces, TABLE), FACES)
        self.assertEqual(asked(self, right_faces, TABLE), (
            (("eat", "thing", "truth"), ("f", "sign", "sign"), ("new", "truth", "thing")),
            (("ask", "sign", "sign"), ("tell", "truth", "truth"))))
        crossed = ((("f", ("sign", "truth", ("no", "yes")), ("num", "truth", ("no",) * 3)),),
                   (("g", ("truth", "sign", ("x", "y")), ("truth", "num", ("a", "b"))),)) + TABLE[2:]
        self.assertEqual(faces(crossed), ((("f", "truth", "num"),), (("g", "truth", "num"),)))
        self.assertEqual(right_faces(crossed), ((("f", "sign", "truth"),), (("g", "sign", "truth"),)))

    def test_faces_are_faces(self):
        for seed in range(60):
            left, right = make.side(seed), make.side(seed + 1000)
            table = make.table(seed, left, right)
            self.assertIs(is_faces(left, asked(self, faces, table)), True)
            self.assertIs(is_faces(right, asked(self, right_faces, table)), True)
            self.assertEqual([[row[0] for row in rows] for rows in faces(table)],
                             [[row[0] for row in rows] for rows in right_faces(table)])

    def test_ways(self):
        self.assertEqual(asked(self, ways_of, TABLE), (
            ("eat", "out", TRUTHS), ("f", "into", NUMS), ("f", "out", SIGNS), ("new", "into", TRUTHS),
            ("ask", "into", IMPORTS[0][2]), ("ask", "out", SIGNS), ("tell", "into", TRUTHS), ("tell", "out", TRUTHS)))
        self.assertEqual(ways_of(((("f", THING, THING),), ()) + TABLE[2:]), ())

    def test_exports_and_imports(self):
        for rows, function, others in ((EXPORTS, export_of, IMPORTS), (IMPORTS, import_of, EXPORTS)):
            for row in rows:
                self.assertEqual(asked(self, function, TABLE, row[0]), row)
            for row in others + (("zz",), ("num",)):
                self.assertIsNone(asked(self, function, TABLE, row[0]))

    def test_led(self):
        self.assertEqual([asked(self, led, RIGHT, NUMS, raw) for raw in ("x", "y")], ["a", ""])
        self.assertEqual([asked(self, led, LEFT, SIGNS, raw) for raw in ("a", "b", "c")], ["x", "x", "y"])
        self.assertEqual([asked(self, led, LEFT, TRUTHS, raw) for raw in ("no", "yes")], ["no", "yes"])

    def test_words(self):
        three = (LEFT[0][:2] + (("word", ("low", "mid", "odd")),), (), ())
        two = (RIGHT[0][:2] + (("word", ("bad", "worse")),), (), ())
        table = TABLE[:2] + ((("worse", "bad", "worse"), ("odd", "low"), "mid", "bad", "odd"), MODES)
        self.assertEqual([asked(self, out_word, three, table, word) for word in ("low", "mid", "odd")],
                         ["worse", "bad", "worse"])
        self.assertEqual([asked(self, into_word, two, table, word) for word in ("bad", "worse")], ["odd", "low"])

    def test_let_by_and_met(self):
        way = ("num", "sign", ("y", "", "x"))
        self.assertEqual([asked(self, let_by, LEFT, way), asked(self, met, way)], [("a", "c"), ("x", "y")])
        self.assertEqual([let_by(LEFT, SIGNS), met(SIGNS)], [("a", "b", "c"), ("x", "y")])
        self.assertEqual([let_by(RIGHT, NUMS), met(NUMS)], [("x",), ("a",)])
        self.assertEqual([let_by(RIGHT, ("sign", "num", ("", ""))), met(("sign", "num", ("", "")))], [(), ()])
        self.assertEqual(met(("num", "sign", ("y", "y", "y"))), ("y",))

    def test_with_modes(self):
        for modes in itertools.product(*make.MODES):
            self.assertEqual(asked(self, with_modes, TABLE, modes), (EXPORTS, IMPORTS, WORDS, modes))

    def test_with_way(self):
        for face, place, way in ways_of(TABLE):
            new = way[:2] + (way[2][::-1],)
            table = asked(self, with_way, TABLE, face, place, new)
            for rows, old, places in ((table[0], EXPORTS, ("into", "out")), (table[1], IMPORTS, ("out", "into"))):
                want = [tuple([row[0]] + [new if (row[0], own) == (face, place) else way for own, way in
                                          zip(places, row[1:])]) for row in old]
                self.assertEqual(rows, tuple(want))
            self.assertEqual(table[2:], TABLE[2:])
            self.assertIs(type(table), tuple)


class Passable(unittest.TestCase):

    def check(self, exports, imports, want):
        table = (exports, imports, WORDS, MODES)
        self.assertIs(is_table(LEFT, RIGHT, table), True)
        assert_tells(self, is_passable, (), table, want)

    def test_ways_into_the_left_side_let_some_raw_by(self):
        none = ("sign", "num", ("", ""))
        self.check((("f", NUMS, SIGNS),), (), True)
        self.check((("f", none, SIGNS),), (), False)
        self.check((("f", NUMS, SIGNS), ("g", none, SIGNS)), (), False)
        self.check((("f", NUMS, SIGNS),), (("g", SIGNS, none),), False)
        self.check((("f", NUMS, SIGNS),), (("g", SIGNS, NUMS),), True)

    def test_things_come_from_somewhere(self):
        self.check((("f", THING, SIGNS),), (), False)
        self.check((("f", THING, THING),), (), False)
        self.check((("f", THING, THING), ("g", NUMS, SIGNS)), (), False)
        self.check((("f", THING, THING), ("g", NUMS, THING)), (), True)
        self.check((("f", THING, SIGNS), ("g", NUMS, THING)), (), True)
        self.check((("f", NUMS, THING),), (), True)
        assert_tells(self, is_passable, (), TABLE, True)


class Level(unittest.TestCase):

    def check(self, left, right, table, want):
        self.assertIs(is_table(left, right, table), True)
        assert_tells(self, is_level, (left, right), table, want)

    def test_alike_raws_are_led_to_alike_ones(self):
        for raws, want in ((("a", "a"), True), (("b", "c"), True), (("a", "b"), False), (("", ""), True),
                           (("a", ""), False), (("", "b"), False), (("c", "b"), True)):
            way = ("sign", "num", raws)
            self.check(LEFT, RIGHT, ((("f", way, SIGNS),), (), WORDS, MODES), want)
            self.check(LEFT, RIGHT, ((("f", THING, SIGNS),), (("g", SIGNS, way),), WORDS, MODES), want)
            telling = (RIGHT[0], (("on", ("sign",), "truth", ("no", "yes")),), ())
            self.check(LEFT, telling, ((("f", way, SIGNS),), (), WORDS, MODES), True)

    def test_ways_out_count_for_nothing(self):
        unlike = ("num", "truth", ("no", "no", "yes"))
        self.check(LEFT, RIGHT, ((("f", THING, unlike),), (("g", unlike, TRUTHS),), WORDS, MODES), True)

    def test_into_of_words(self):
        right = (RIGHT[0][:2] + (("word", ("bad", "worse")),), (), ())
        told = (LEFT[0], (("tell", ("word",), "truth", ("no", "yes")),), ())
        for into, same, apart in ((("low", "low"), True, True), (("low", "odd"), True, False)):
            table = ((("f", THING, SIGNS),), (), (("bad", "bad"), into, "low", "bad", "low"), MODES)
            self.check(LEFT, right, table, same)
            self.check(told, right, table, apart)
            knowing = (right[0], (("tell", ("word",), "truth", ("no", "yes")),), ())
            self.check(told, knowing, table, True)

    def test_by_all_couples(self):
        told = {True: 0, False: 0}
        for seed in range(400):
            left, right = make.side(seed), make.side(seed + 1000)
            table = make.table(seed, left, right, 2, 1)
            want = reference.level(left, right, table)
            told[want] += 1
            assert_tells(self, is_level, (left, right), table, want)
        self.assertGreater(min(told.values()), 40)


class Twice(unittest.TestCase):

    def test_twice(self):
        keeping = LEFT[:2] + (("keep",),)
        other = LEFT[:2] + (("again", "catch", "same"),)
        for exports, always, kept in (((("f", NUMS, SIGNS),), False, False), ((("f", THING, SIGNS),), False, False),
                                      ((("f", NUMS, THING),), False, True), ((("f", THING, THING),), True, True),
                                      ((("f", THING, SIGNS), ("g", NUMS, THING)), False, True),
                                      ((("f", THING, THING), ("g", NUMS, SIGNS)), True, True)):
            table = (exports, IMPORTS, WORDS, MODES)
            self.assertIs(is_table(LEFT, RIGHT, table), True)
            self.assertIs(asked(self, twice, LEFT, table), always)
            self.assertIs(asked(self, twice, other, table), always)
            self.assertIs(asked(self, twice, keeping, table), kept)


class AtTheBounds(unittest.TestCase):

    def test_at_the_bounds(self):
        for seed in range(3):
            left, right = make.full_side(seed), make.full_side(seed + 9)
            table = make.table(seed, left, right, 4, 3)
            assert_tells(self, is_table, (left, right), table, True)
            self.assertIs(is_faces(left, faces(table)), True)
            self.assertIn(asked(self, is_level, left, right, table), (True, False))
            self.assertIn(asked(self, is_passable, table), (True, False))


if __name__ == "__main__":
    unittest.main()
