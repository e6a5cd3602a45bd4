"""[19] texts of tables."""

import itertools
import random
import unittest

from besidealone.tabletexts import read_table, show_table
from tests import make, reference_texts
from tests.helpers import ANY, asked, assert_line, assert_wrong
from tests.test_tables import LEFT, RIGHT, TABLE

TEXT = """export eat
into thing
out truth truth no yes
export f
into sign num a -
out num sign x x y
export new
into truth truth no yes
out thing
import ask
out num sign x x y
into sign num - b
import tell
out truth truth no yes
into truth truth no yes
words out bad bad
words into odd
words refused low bad odd
modes crosses live let kept"""
LINES = TEXT.split("\n")
# The lines of each export and each import, and those behind them.
EXPORTS = [LINES[0:3], LINES[3:6], LINES[6:9]]
IMPORTS = [LINES[9:12], LINES[12:15]]
REST = LINES[15:]


def text_of(*blocks):
    return "\n".join([line for block in blocks for line in block])


class ShowTable(unittest.TestCase):

    def test_line_by_line(self):
        self.assertEqual(asked(self, show_table, LEFT, RIGHT, TABLE), TEXT)
        self.assertEqual(show_table(LEFT, RIGHT, (TABLE[0], ()) + TABLE[2:]), text_of(*EXPORTS, REST))
        self.assertEqual(show_table(LEFT, RIGHT, TABLE[:3] + (("stops", "tabled", "barred", "fresh"),)).split("\n")[-1],
                         "modes stops tabled barred fresh")

    def test_there_and_back(self):
        for seed in range(80):
            left, right = make.side(seed), make.side(seed + 1000)
            table = make.table(seed, left, right, 4, 3)
            text = asked(self, show_table, left, right, table)
            self.assertEqual(asked(self, read_table, left, right, text), table)
        for seed in range(3):
            left, right = make.full_side(seed), make.full_side(seed + 9)
            table = make.table(seed, left, right, 4, 3)
            self.assertEqual(read_table(left, right, show_table(left, right, table)), table)


class ReadTable(unittest.TestCase):

    def check_line(self, line, text):
        self.assertEqual(reference_texts.table_line(LEFT, RIGHT, text), line, text)
        assert_line(self, line, read_table, LEFT, RIGHT, text)

    def test_faces_in_any_order_and_blanks(self):
        for exports in itertools.permutations(EXPORTS):
            for imports in itertools.permutations(IMPORTS):
                text = text_of(*exports, *imports, REST)
                self.assertEqual(asked(self, read_table, LEFT, RIGHT, text), TABLE)
                text = "\n " + text.replace("\n", "\n\n  \n").replace(" ", "  ") + "  \n\n "
                self.assertEqual(asked(self, read_table, LEFT, RIGHT, text), TABLE)

    def test_wrong_in_this_order_and_ahead_of_no_text(self):
        for thing in ANY:
            assert_wrong(self, 0, read_table, thing, thing, thing)
            assert_wrong(self, 0, read_table, thing, RIGHT, "junk")
            assert_wrong(self, 1, read_table, LEFT, thing, None)
            assert_wrong(self, 1, read_table, LEFT, thing, TEXT)
            if not isinstance(thing, str):
                assert_wrong(self, 2, read_table, LEFT, RIGHT, thing)
        assert_wrong(self, 0, read_table, list(LEFT), RIGHT, TEXT)
        assert_wrong(self, 1, read_table, LEFT, RIGHT[:2], TEXT)
        assert_wrong(self, 2, read_table, LEFT, RIGHT, TABLE)

    def test_strings_that_are_no_texts(self):
        for thing in ANY:
            if isinstance(thing, str):
                self.check_line(0 if thing.strip() else 1, thing)

    def test_a_text_that_ends_ahead_of_the_modes(self):
        for many in range(len(LINES)):
            text = "\n".join(LINES[:many])
            self.check_line(max(many, 1), text)
            self.check_line(many + 2, text + "\n \n" if many else "\n ")

    def test_lines_behind_the_modes(self):
        for line in LINES + ["junk", "-"]:
            self.check_line(20, TEXT + "\n\n" + line)

    def test_bad_ways(self):
        into, out = EXPORTS[1][1], EXPORTS[1][2]
        for line in ("into", "into sign", "into sign num", "into sign num a", "into sign num a a a", "into sign num a x",
                     "into sign num a no", "into num sign x y", "into sign sign x y", "into num num a a a",
                     "into word num a", "into sign word low low", "into thing a", "into thing thing", "into things",
                     "into sign thing a a", "into thing num a a", "into sign num a --", "into sign num a ''", out,
                     "in sign num a a", "Into sign num a a", "export g", "into sign truth a a"):
            self.check_line(1, text_of([EXPORTS[1][0], line, out], REST))
        for line in ("out", "out num", "out num sign", "out num sign x x", "out num sign x x x x", "out num sign x x -",
                     "out num sign x x a", "out sign num a b", "out num num a b c", "out word sign x x", "out thing x",
                     "out num word bad bad bad", into, "words out bad bad", "out num sign - - -"):
            self.check_line(2, text_of([EXPORTS[1][0], into, line], REST))

    def test_bad_ways_of_imports(self):
        ask, out, into = IMPORTS[0]
        for line in ("out thing", "out num sign x x -", "out sign num a b", into, "into thing", "import h"):
            self.check_line(4, text_of(EXPORTS[1], [ask, line, into], REST))
        for line in ("into thing", "into sign num a z", "into num sign x x y", out, "out thing"):
            self.check_line(5, text_of(EXPORTS[1], [ask, out, line], REST))

    def test_bad_names(self):
        for name in ("", "F", "f g", "f-", "abcdefghijklm", "f1"):
            self.check_line(0, text_of(["export " + name, *EXPORTS[1][1:]], REST))
            self.check_line(3, text_of(EXPORTS[0], ["export " + name, *EXPORTS[1][1:]], REST))
            self.check_line(3, text_of(EXPORTS[0], ["import " + name, *IMPORTS[0][1:]], REST))
        self.check_line(3, text_of(EXPORTS[0], EXPORTS[0], REST))
        self.check_line(3, text_of(EXPORTS[0], ["import eat", *IMPORTS[0][1:]], REST))
        self.check_line(6, text_of(EXPORTS[0], IMPORTS[0], IMPORTS[0], REST))
        self.check_line(9, text_of(EXPORTS[0], IMPORTS[0], IMPORTS[1], ["import eat", *IMPORTS[0][1:]], REST))

    def test_order_of_the_lines(self):
        self.check_line(0, text_of(IMPORTS[0], EXPORTS[0], REST))
        self.check_line(0, text_of(REST))
        self.check_line(6, text_of(EXPORTS[0], IMPORTS[0], EXPORTS[1], REST))
        for order in itertools.permutations(range(4)):
            if order != (0, 1, 2, 3):
                first = [at for at in range(4) if order[at] != at][0]
                self.check_line(3 + first, text_of(EXPORTS[0], [REST[at] for at in order]))

    def test_bad_words_and_modes(self):
        good = text_of(EXPORTS[1])
        for at, lines in ((0, ("words out bad", "words out bad bad bad", "words out bad low", "words out bad -",
                               "words out", "words", "words outs bad bad", "word out bad bad")),
                          (1, ("words into", "words into odd odd", "words into bad", "words into -", "words out odd")),
                          (2, ("words refused low bad", "words refused low bad odd odd", "words refused bad bad odd",
                               "words refused low low odd", "words refused low bad bad", "words refused low bad -")),
                          (3, ("modes", "modes crosses live let", "modes crosses live let kept kept", "mode a b c d",
                               "modes live crosses let kept", "modes stops tabled barred keep",
                               "modes crosses live kept let", "modes - live let kept", "modes Crosses live let kept"))):
            for line in lines:
                self.check_line(3 + at, good + "\n" + "\n".join(REST[:at] + [line] + REST[at + 1:]))

    def test_texts_with_one_thing_changed(self):
        words = ("-", "thing", "num", "sign", "word", "truth", "a", "x", "no", "low", "bad", "tabled", "kept", "f", "ask",
                 "into", "out", "words", "export", "import", "modes")
        told = {True: 0, False: 0}
        for text in reference_texts.changed_texts(TEXT, words):
            line = reference_texts.table_line(LEFT, RIGHT, text)
            told[line is None] += 1
            if line is None:
                table = read_table(LEFT, RIGHT, text)
                self.assertEqual(read_table(LEFT, RIGHT, show_table(LEFT, RIGHT, table)), table)
            else:
                assert_line(self, line, read_table, LEFT, RIGHT, text)
        self.assertGreater(told[True], 50)
        self.assertGreater(told[False], 1500)

    def test_texts_with_many_things_changed(self):
        source = random.Random(2)
        for seed in range(300):
            left, right = make.side(seed), make.side(seed + 1000)
            lines = show_table(left, right, make.table(seed, left, right)).split("\n")
            for _ in range(source.randint(1, 3)):
                at, to = source.randrange(len(lines)), source.randrange(len(lines))
                words = lines[at].split(" ")
                words[source.randrange(len(words))] = source.choice(words + lines[to].split(" ") + ["-", "thing", ""])
                lines[at] = " ".join(words)
                if source.random() < 0.3:
                    lines.insert(to, lines.pop(at))
            text = "\n".join(lines)
            line = reference_texts.table_line(left, right, text)
            if line is None:
                table = read_table(left, right, text)
                self.assertEqual(read_table(left, right, show_table(left, right, table)), table)
            else:
                assert_line(self, line, read_table, left, right, text)


if __name__ == "__main__":
    unittest.main()
