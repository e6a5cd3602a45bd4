"""[15] texts of sides."""

import itertools
import random
import unittest

from besidealone.errors import NoText
from besidealone.sidetexts import read_side, show_side
from tests import make, reference_texts
from tests.helpers import ANY, asked, assert_line, assert_wrong

SIDE = ((("num", ("m", "n", "p")), ("truth", ("no", "yes")), ("word", ("low",))),
        (("less", ("num", "num"), "truth", ("no", "yes", "yes", "no", "no", "yes", "no", "no", "no")),
         ("turn", ("num",), "num", ("p", "n", "m"))), ("catch", "keep"))
TEXT = """kind num m n p
kind truth no yes
kind word low
operation less num num -> truth : no yes yes no no yes no no no
operation turn num -> num : p n m
powers catch keep"""
KINDS = "kind truth no yes\nkind word low"


class ShowSide(unittest.TestCase):

    def test_line_by_line(self):
        self.assertEqual(asked(self, show_side, SIDE), TEXT)
        self.assertEqual(asked(self, show_side, SIDE[:2] + ((),)), TEXT[:TEXT.index("\npowers")])
        self.assertEqual(asked(self, show_side, (SIDE[0][1:], (), ())), KINDS)
        self.assertEqual(asked(self, show_side, (SIDE[0][1:], (), make.POWERS)), KINDS + "\npowers again catch keep same")

    def test_there_and_back(self):
        for seed in range(60):
            side = make.side(seed, 5, 5, 5)
            self.assertEqual(asked(self, read_side, asked(self, show_side, side)), side)
        for seed in range(3):
            side = make.full_side(seed)
            self.assertEqual(read_side(show_side(side)), side)


class ReadSide(unittest.TestCase):

    def test_lines_in_any_order_and_blanks(self):
        lines = TEXT.split("\n")
        for kinds in itertools.permutations(lines[:3]):
            for operations in itertools.permutations(lines[3:5]):
                text = "\n\n   \n".join([*kinds, *operations, lines[5]])
                self.assertEqual(asked(self, read_side, text), SIDE)
                self.assertEqual(asked(self, read_side, "\n  " + text.replace(" ", "   ") + "  \n "), SIDE)

    def test_strings_alone(self):
        for thing in ANY:
            if not isinstance(thing, str):
                assert_wrong(self, 0, read_side, thing)
        assert_wrong(self, 0, read_side, [TEXT])
        assert_wrong(self, 0, read_side, SIDE)

    def test_strings_that_are_no_texts(self):
        for thing in ANY:
            if isinstance(thing, str):
                assert_line(self, 0 if thing.strip() else 1, read_side, thing)

    def test_what_lacks(self):
        for text, line in (("", 1), (" ", 1), ("\n", 2), ("\n \n\n", 4), ("kind truth no yes", 1), ("kind word low", 1),
                           ("kind word low\n", 2), ("\nkind truth no yes\n\n", 4), ("kind num m\nkind word low", 2)):
            assert_line(self, line, read_side, text)

    def test_bad_lines_of_kinds(self):
        for line in ("kind", "kind num", "kind thing a", "kind num b a", "kind num a a", "kind Num a", "kind num A",
                     "kind num a,b", "kind num a -", "kind truth no yes", "kind word a", "kind abcdefghijklm a",
                     "kind num abcdefghijklm", "kinds num a", "Kind num a", "num a", "k", "-", ":", "->"):
            assert_line(self, 3, read_side, KINDS + "\n\n" + line + "\npowers junk")
        for line in ("kind truth no", "kind truth yes no", "kind truth maybe no yes", "kind truth", "kind truth No yes"):
            assert_line(self, 1, read_side, "kind word low\n" + line + "\n")

    def test_bad_lines_of_operations(self):
        for line in ("", "f", "f truth", "f truth ->", "f truth -> truth", "f truth -> truth :", "f -> truth : no",
                     "f truth -> truth : no", "f truth -> truth : no no no", "f truth -> truth : no low",
                     "f truth truth truth -> truth : no no no no no no no no", "f truth -> num : no no",
                     "f num -> truth : no", "f thing -> truth : no", "F truth -> truth : no no", "-> truth : no no",
                     "f truth truth : no no", "f truth -> truth no no", "f truth -> : no no", "f truth -> truth -> : no",
                     "f truth -> truth : : no no", "f truth : truth -> no no", "f truth->truth : no no",
                     "f truth - truth : no no", "truth -> truth : no no", "g word -> word : low"):
            text = KINDS + "\noperation g word -> word : low\n \noperation " + line
            assert_line(self, 4, read_side, text)
            assert_line(self, 4, read_side, text + "\njunk")

    def test_bad_lines_of_powers(self):
        for line in ("powers", "powers keep catch", "powers keep keep", "powers Keep", "powers kept", "powers keep,",
                     "power keep", "powers again catch keep same same", "powers -", "keep"):
            assert_line(self, 2, read_side, KINDS + "\n" + line)

    def test_order_of_the_lines(self):
        operation = "\noperation g word -> word : low"
        for text, line in ((KINDS + operation + "\nkind num a", 3), (KINDS + "\npowers keep" + operation, 3),
                           (KINDS + "\npowers keep\npowers keep", 3), (KINDS + "\npowers keep\nkind num a", 3),
                           ("powers keep\n" + KINDS, 0), (operation + "\n" + KINDS, 1),
                           ("kind word low" + operation + "\nkind truth no yes", 1),
                           ("kind truth no yes\npowers keep\nkind word low", 1)):
            assert_line(self, line, read_side, text)

    def test_texts_with_one_thing_changed(self):
        words = ("num", "truth", "word", "thing", "m", "p", "no", "low", "->", ":", "keep", "same", "kind", "powers")
        told = {True: 0, False: 0}
        for text in reference_texts.changed_texts(TEXT, words):
            line = reference_texts.side_line(text)
            told[line is None] += 1
            if line is None:
                self.assertEqual(show_side(read_side(text)).count("kind "), text.count("kind "))
            else:
                assert_line(self, line, read_side, text)
        self.assertGreater(told[True], 20)
        self.assertGreater(told[False], 500)

    def test_texts_with_many_things_changed(self):
        source = random.Random(1)
        for seed in range(300):
            lines = show_side(make.side(seed)).split("\n")
            for _ in range(source.randint(1, 3)):
                at, to = source.randrange(len(lines)), source.randrange(len(lines))
                words = lines[at].split(" ")
                words[source.randrange(len(words))] = source.choice(words + lines[to].split(" ") + ["a", ""])
                lines[at] = " ".join(words)
                lines.insert(to, lines.pop(at))
            text = "\n".join(lines)
            line = reference_texts.side_line(text)
            if line is None:
                self.assertEqual(read_side(show_side(read_side(text))), read_side(text))
            else:
                assert_line(self, line, read_side, text)

    def test_an_error_is_of_its_class(self):
        with self.assertRaises(NoText):
            read_side("kind")


if __name__ == "__main__":
    unittest.main()
