"""[17] TERMS."""

import itertools
import unittest

from besidealone.likeness import classes, likeness
from besidealone.telling import choice, filled, gives, is_term, term, value_of
from tests import make, reference
from tests.helpers import ANY, asked, assert_tells, changed, strings_in
from tests.test_likeness import chain

HOLE = ("hole",)
KINDS = (("num", ("a", "b", "c", "d")), ("truth", ("no", "yes")), ("word", ("low",)))
SIDE = (KINDS, (("both", ("num", "truth"), "truth", ("no", "yes") * 4),
                ("first", ("num",), "truth", ("yes", "no", "no", "no")),
                ("next", ("num",), "num", ("b", "a", "d", "d"))), ())
NEXT = ("do", "next", (HOLE,))
DEEP = ("do", "both", (("do", "next", (NEXT,)), ("do", "first", (("raw", "num", "a"),))))


class IsTerm(unittest.TestCase):

    def test_terms(self):
        for kind, thing, given in (("num", HOLE, "num"), ("truth", HOLE, "truth"), ("word", HOLE, "word"),
                                   ("num", NEXT, "num"), ("num", ("do", "first", (NEXT,)), "truth"),
                                   ("num", DEEP, "truth"), ("num", ("do", "both", (HOLE, ("raw", "truth", "no"))), "truth"),
                                   ("truth", ("do", "both", (("raw", "num", "c"), HOLE)), "truth")):
            assert_tells(self, is_term, (SIDE, kind), thing, True)
            self.assertEqual(asked(self, gives, SIDE, kind, thing), given)

    def test_no_terms(self):
        for thing in (("raw", "num", "a"), ("do", "first", (("raw", "num", "a"),)), ("do", "both", (HOLE, HOLE)),
                      ("do", "both", (HOLE, ("do", "first", (HOLE,)))), ("do", "first", ()), ("do", "first", HOLE),
                      ("do", "first", (HOLE, HOLE)), ("do", "zz", (HOLE,)), ("do", "first", [HOLE]), ["hole"], "hole",
                      ("hole", "num"), ("do", "both", (HOLE, ("raw", "truth", "a"))), ("do", "first"),
                      ("do", "both", (HOLE, ("raw", "num", "a"))), ("do", "both", (("raw", "truth", "no"), HOLE)),
                      ("do", "first", (("do", "first", (HOLE,)),)), ("name", "x"), ("do", "first", (("name", "x"),)),
                      ("cell", "x"), ("do", "both", (HOLE, ("raw", "truth"))), ("same", HOLE, HOLE)):
            assert_tells(self, is_term, (SIDE, "num"), thing, False)
        assert_tells(self, is_term, (SIDE, "truth"), NEXT, False)
        assert_tells(self, is_term, (SIDE, "word"), DEEP, False)

    def test_one_thing_changed_at_any_depth(self):
        told = {True: 0, False: 0}
        for kind, (thing, words) in itertools.product(("num", "truth", "word"), ((DEEP, strings_in(SIDE)),
                                                                               (NEXT, strings_in(DEEP)), (HOLE, ()))):
            for new in changed(thing, sorted(words)):
                want = reference.term_ok(SIDE, kind, new)
                told[want] += 1
                self.assertIs(is_term(SIDE, kind, new), want, (kind, new))
        self.assertGreater(told[True], 5)
        self.assertGreater(told[False], 1000)

    def test_any_value(self):
        for thing in ANY:
            for kind in ("num", "truth", "word"):
                assert_tells(self, is_term, (SIDE, kind), thing, thing == HOLE and isinstance(thing, tuple))
                for near in (("do", thing, (HOLE,)), ("do", "next", thing), ("raw", thing, "a"), ("raw", "num", thing),
                             ("do", "both", (HOLE, thing)), (thing, "next", (HOLE,))):
                    want = reference.term_ok(SIDE, kind, near)
                    assert_tells(self, is_term, (SIDE, kind), near, want)


class Asking(unittest.TestCase):

    def test_values(self):
        for raw in "abcd":
            self.assertEqual(asked(self, value_of, SIDE, HOLE, raw), raw)
        self.assertEqual([asked(self, value_of, SIDE, NEXT, raw) for raw in "abcd"], ["b", "a", "d", "d"])
        self.assertEqual([asked(self, value_of, SIDE, DEEP, raw) for raw in "abcd"], ["yes"] * 4)
        both = ("do", "both", (("raw", "num", "a"), HOLE))
        self.assertEqual([asked(self, value_of, SIDE, both, raw) for raw in ("no", "yes")], ["no", "yes"])

    def test_values_of_all_terms(self):
        for seed in range(60):
            side = make.side(seed, 4, 3, 4)
            for kind, raws in side[0]:
                for one, other in itertools.product(raws, repeat=2):
                    found = term(side, kind, one, other)
                    for raw in raws if found else ():
                        self.assertEqual(value_of(side, found, raw), reference.term_value(side, found, raw))

    def test_filled(self):
        x = ("name", "x")
        self.assertEqual(asked(self, filled, HOLE, x), x)
        self.assertEqual(asked(self, filled, NEXT, ("cell", "y")), ("do", "next", (("cell", "y"),)))
        self.assertEqual(asked(self, filled, DEEP, x), ("do", "both", (
            ("do", "next", (("do", "next", (x,)),)), ("do", "first", (("raw", "num", "a"),)))))
        self.assertEqual(asked(self, filled, NEXT, ("raw", "num", "b")), ("do", "next", (("raw", "num", "b"),)))
        self.assertEqual(asked(self, filled, NEXT, NEXT), ("do", "next", (NEXT,)))


class Telling(unittest.TestCase):

    def test_none_just_for_alike_raws_and_otherwise_of_least_depth(self):
        deepest = 0
        for seed in range(150):
            side = make.side(seed, 4, 3, 4)
            for kind, raws in side[0]:
                depths = reference.depths(side, kind)
                for one, other in itertools.product(raws, repeat=2):
                    found = asked(self, term, side, kind, one, other)
                    if (one, other) not in depths:
                        self.assertIsNone(found)
                        continue
                    given, holes, depth = reference.check_term(side, kind, found)
                    self.assertEqual((given, holes, depth), ("truth", 1, depths[one, other]))
                    self.assertNotEqual(value_of(side, found, one), value_of(side, found, other))
                    deepest = max(deepest, depth)
        self.assertGreater(deepest, 1)

    def test_deep_terms(self):
        side = chain(26)
        found = asked(self, term, side, "num", "a", "b")
        self.assertEqual(reference.check_term(side, "num", found), ("truth", 1, 25))
        self.assertNotEqual(value_of(side, found, "a"), value_of(side, found, "b"))
        self.assertEqual(reference.check_term(side, "num", term(side, "num", "y", "z"))[2], 1)
        self.assertIs(is_term(side, "num", found), True)

    def test_truths(self):
        self.assertEqual(asked(self, term, SIDE, "truth", "no", "yes"), HOLE)
        self.assertIsNone(asked(self, term, SIDE, "truth", "no", "no"))

    def check_choice(self, side, kind, raw):
        found = asked(self, choice, side, kind, raw)
        own = [lot for lot in classes(side, kind) if raw in lot][0]
        self.assertIsInstance(found, tuple)
        self.assertLess(len(found), len(classes(side, kind)))
        for row in found:
            self.assertIsInstance(row, tuple)
            one, truth = row
            self.assertIs(is_term(side, kind, one), True)
            self.assertEqual(gives(side, kind, one), "truth")
            self.assertIn(truth, ("no", "yes"))
        for other in dict(side[0])[kind]:
            fits = all([value_of(side, one, other) == truth for one, truth in found])
            self.assertIs(fits, other in own)

    def test_choice(self):
        for side in [SIDE, chain(20)] + [make.side(seed, 5, 5, 5) for seed in range(60)]:
            for kind, raws in side[0]:
                for raw in raws:
                    self.check_choice(side, kind, raw)
        self.assertEqual(asked(self, choice, SIDE, "word", "low"), ())

    def test_at_the_bounds(self):
        for seed in range(3):
            side = make.full_side(seed)
            for kind, raws in side[0]:
                self.check_choice(side, kind, raws[0])
                for other in raws[1:]:
                    found = term(side, kind, raws[0], other)
                    self.assertIs(found is None, any([other in lot and raws[0] in lot for lot in dict(likeness(side))[kind]]))


if __name__ == "__main__":
    unittest.main()
