"""[14] sides."""

import itertools
import unittest

from besidealone.sides import has, is_side, kinds_of, operation, raws_of, result_of, rows_of, with_powers
from tests import make, reference
from tests.helpers import ANY, asked, assert_tells, changed, nested

KINDS = (("num", ("m", "n", "p")), ("truth", ("no", "yes")), ("word", ("low",)))
LESS = ("less", ("num", "num"), "truth", ("no", "yes", "yes", "no", "no", "yes", "no", "no", "no"))
TURN = ("turn", ("num",), "num", ("p", "n", "m"))
SIDE = (KINDS, (LESS, TURN), ("catch", "keep"))
LEAST = (KINDS[1:], (), ())


class IsSide(unittest.TestCase):

    def test_sides(self):
        for side in (SIDE, LEAST, (KINDS, (), make.POWERS), (KINDS, (TURN,), ("same",))):
            assert_tells(self, is_side, (), side, True)
        for seed in range(60):
            assert_tells(self, is_side, (), make.side(seed, 5, 5, 5), True)

    def test_one_thing_changed_at_any_depth(self):
        words = ("thing", "truth", "word", "num", "m", "p", "no", "yes", "low", "keep", "again", "less", "ab")
        told = {True: 0, False: 0}
        for side in (SIDE, LEAST):
            for thing in changed(side, words):
                want = reference.side_ok(thing)
                told[want] += 1
                self.assertIs(is_side(thing), want, thing)
        self.assertGreater(told[True], 20)
        self.assertGreater(told[False], 2000)

    def test_any_value(self):
        for thing in ANY + (nested(20), nested(19, "a")):
            assert_tells(self, is_side, (), thing, False)
            for at in range(3):
                self.assertIs(is_side(SIDE[:at] + (thing,) + SIDE[at + 1:]), thing == () and at > 0)

    def test_kinds(self):
        for kinds in (KINDS[:2], KINDS[:1] + KINDS[2:], KINDS[::-1], KINDS + KINDS[2:], list(KINDS),
                      KINDS[:1] + (("thing", ("a",)),) + KINDS[1:], KINDS[:1] + (("truth", ("yes", "no")),) + KINDS[2:],
                      KINDS[:1] + (("truth", ("no",)),) + KINDS[2:], KINDS[:2] + (("word", ()),),
                      KINDS[:1] + (("truth", ("maybe", "no", "yes")),) + KINDS[2:], KINDS[:2] + (("word", ["low"]),),
                      KINDS[:2] + (["word", ("low",)],), (("n", ("b", "a")),) + KINDS[1:],
                      (("n", ("a", "a")),) + KINDS[1:], (("n", ("A",)),) + KINDS[1:], (("N", ("a",)),) + KINDS[1:]):
            assert_tells(self, is_side, (), (kinds, (), ()), False)
        assert_tells(self, is_side, (), ((("n", ("thing",)),) + KINDS[1:], (), ()), True)

    def test_operations(self):
        for row in (("f", ("num",), "num", ("p", "n")), ("f", ("num",), "num", ("p", "n", "m", "m")),
                    ("f", ("num",), "truth", ("p", "n", "m")), ("f", ("num",), "num", ("p", "n", "yes")),
                    ("f", (), "num", ("p",)), ("f", ("truth",) * 3, "num", ("p",) * 8), ("f", ("num",), "thing", ()),
                    ("f", ("thing",), "num", ("p",)), ("f", "num", "num", ("p", "n", "m")), ("f", ["num"], "num", ()),
                    ("f", ("num",), "num", ["p", "n", "m"]), ("F", ("num",), "num", ("p", "n", "m")),
                    ("f", ("num",), "num", ("p", "n", "")), ("f", ("num",), "num"), ["f", ("num",), "num", ("p",) * 3]):
            assert_tells(self, is_side, (), (KINDS, (row,), ()), False)
        for rows in ((TURN, LESS), (TURN, TURN), [TURN], ((TURN[:3] + (("p", "p", "p"),)), TURN)):
            assert_tells(self, is_side, (), (KINDS, rows, ()), False)
        for row in (("num", ("word",), "word", ("low",)), ("f", ("truth", "num"), "truth", ("no",) * 6)):
            assert_tells(self, is_side, (), (KINDS, (row,), ()), True)

    def test_powers(self):
        for many in range(3):
            for powers in itertools.product(make.POWERS + ("kept", "", "Keep"), repeat=many):
                want = set(powers) <= set(make.POWERS) and list(powers) == sorted(set(powers))
                assert_tells(self, is_side, (), (KINDS, (), powers), want)
                assert_tells(self, is_side, (), (KINDS, (), list(powers)), False)
        assert_tells(self, is_side, (), (KINDS, (), make.POWERS), True)

    def test_at_the_bounds_and_beyond(self):
        for seed in range(5):
            assert_tells(self, is_side, (), make.full_side(seed), True)
        names = tuple(sorted("a" + "".join(letters) for letters in itertools.product("bcdefghijklm", repeat=3)))
        beyond = ((("num", names), ("truth", ("no", "yes")), ("word", ("low",))), (), ())
        assert_tells(self, is_side, (), beyond, True)
        self.assertIs(is_side(beyond[:1] + ((("f", ("num", "num"), "word", ("low",) * 3),), ())), False)
        many = tuple((name, ("word",), "word", ("low",)) for name in names)
        assert_tells(self, is_side, (), (KINDS, many, ()), True)


class Asking(unittest.TestCase):

    def test_kinds_and_raws(self):
        self.assertEqual(asked(self, kinds_of, SIDE), ("num", "truth", "word"))
        self.assertEqual(asked(self, kinds_of, LEAST), ("truth", "word"))
        self.assertEqual([asked(self, raws_of, SIDE, kind) for kind in kinds_of(SIDE)], [row[1] for row in KINDS])

    def test_rows(self):
        self.assertEqual(asked(self, rows_of, SIDE, ()), ((),))
        self.assertEqual(asked(self, rows_of, SIDE, ("num",)), (("m",), ("n",), ("p",)))
        self.assertEqual(asked(self, rows_of, SIDE, ("word", "truth")), (("low", "no"), ("low", "yes")))
        for kinds in itertools.product(kinds_of(SIDE), repeat=3):
            want = tuple(itertools.product(*[dict(KINDS)[kind] for kind in kinds]))
            self.assertEqual(asked(self, rows_of, SIDE, kinds), want)

    def test_operations(self):
        self.assertEqual(asked(self, operation, SIDE, "less"), LESS)
        self.assertEqual(asked(self, operation, SIDE, "turn"), TURN)
        for name in ("num", "zz", "lesser", "les"):
            self.assertIsNone(asked(self, operation, SIDE, name))
        self.assertIsNone(asked(self, operation, LEAST, "less"))

    def test_results(self):
        for seed in range(40):
            side = make.side(seed, 4, 4, 4)
            for row in side[1]:
                for raws, result in reference.results(side, row).items():
                    self.assertEqual(asked(self, result_of, side, row[0], raws), result)

    def test_powers(self):
        for many in range(5):
            for powers in itertools.combinations(make.POWERS, many):
                side = asked(self, with_powers, SIDE, powers)
                self.assertEqual(side, (SIDE[0], SIDE[1], powers))
                for power in make.POWERS:
                    self.assertIs(asked(self, has, side, power), power in powers)


if __name__ == "__main__":
    unittest.main()
