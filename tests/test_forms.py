"""[13] forms."""

import itertools
import unittest

from besidealone.forms import is_integer, is_lot, is_name
from tests import reference
from tests.helpers import ANY, assert_tells


class Forms(unittest.TestCase):

    def test_integers(self):
        for thing in ANY:
            assert_tells(self, is_integer, (), thing, type(thing) is int)
        for thing in (0, -1, 10 ** 39, -10 ** 39):
            assert_tells(self, is_integer, (), thing, True)
        for thing in (True, False, "1", (1,), [1], None):
            assert_tells(self, is_integer, (), thing, False)

    def test_names(self):
        for thing in ANY:
            assert_tells(self, is_name, (), thing, reference.name_ok(thing))
        for thing in ("a", "z", "azaz", "abcdefghijkl", "thing", "truth", "word"):
            assert_tells(self, is_name, (), thing, True)
        for thing in ("", "abcdefghijklm", "A", "aB", "a b", " a", "a ", "a1", "a_b", "`", "{", "a\n", "@a", "-",
                      ("a",), ["a"], {"a": "a"}, True, None):
            assert_tells(self, is_name, (), thing, False)

    def test_names_have_one_of_the_letters_at_each_place(self):
        for code in range(32, 127):
            for text in (chr(code), "a" + chr(code), chr(code) + "z"):
                assert_tells(self, is_name, (), text, "a" <= chr(code) <= "z")

    def test_lots_of_names(self):
        names = ("a", "b", "c", "yes")
        good = [lot for many in range(5) for lot in itertools.combinations(names, many)]
        for many in range(5):
            for thing in itertools.product(names + ("d",), repeat=many):
                assert_tells(self, is_lot, (names,), thing, thing in good)
                assert_tells(self, is_lot, (names,), list(thing), False)

    def test_lots_out_of_any_values(self):
        for thing in ANY:
            assert_tells(self, is_lot, (("a", "yes"),), thing, thing in ((), ("a",)))
            assert_tells(self, is_lot, (("a", "yes"),), ("a", thing), isinstance(thing, str) and thing == "yes")
            assert_tells(self, is_lot, ((),), thing, thing == () and isinstance(thing, tuple))

    def test_lots_are_ascending_whatever_the_order_of_the_names(self):
        assert_tells(self, is_lot, (("b", "a"),), ("a", "b"), True)
        assert_tells(self, is_lot, (("b", "a"),), ("b", "a"), False)
        assert_tells(self, is_lot, (("a",),), ("a", "a"), False)


if __name__ == "__main__":
    unittest.main()
