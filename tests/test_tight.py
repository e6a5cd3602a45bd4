"""What is gained, and what is lost, sentence by sentence [27], [29]."""

import itertools
import unittest

from besidealone.faithful import faithful_faults, is_faithful, joined, joined_words, missed, missed_words
from besidealone.sides import with_powers
from besidealone.tables import ways_of, with_modes
from besidealone.tight import is_tight, split, split_again, split_words, tight_faults
from tests import make
from tests.cases import CASES, MODES, POWERS, all_of
from tests.helpers import asked
from tests.reference_faults import Faults


class Sentences(unittest.TestCase):

    def test_all_powers_and_modes(self):
        met = set()
        for name, (left, right, table) in CASES.items():
            told = Faults(left, right, table)
            for mine, theirs, modes in itertools.product(POWERS, POWERS, MODES):
                left, right, table = with_powers(left, mine), with_powers(right, theirs), with_modes(table, modes)
                told.mine, told.theirs, told.modes, told.table = mine, theirs, modes, table
                told.twice = any(into == out == ("thing",) for _, into, out in table[0]) or (
                    "keep" in mine and any(out == ("thing",) for _, _, out in table[0]))
                tight, faithful = tight_faults(left, right, table), faithful_faults(left, right, table)
                self.assertEqual(tight, told.tight(), (name, mine, theirs, modes))
                self.assertEqual(faithful, told.faithful(), (name, mine, theirs, modes))
                met.update(tight + faithful)
        self.assertEqual({fault[0] for fault in met}, {"T1", "T2", "T3", "T4", "T5", "F1", "F2", "F3", "F4", "F5", "F6"})

    def test_truths_and_that_nothing_is_changed(self):
        for name in CASES:
            for left, right, table in all_of(name, 97):
                for faults, tells in ((tight_faults, is_tight), (faithful_faults, is_faithful)):
                    found = asked(self, faults, left, right, table)
                    self.assertEqual(list(found), sorted(set(found)))
                    self.assertIs(asked(self, tells, left, right, table), found == ())

    def check_couples(self, left, right, table):
        told = Faults(left, right, table)
        for face, place, way in ways_of(table):
            if place == "out":
                self.assertEqual(asked(self, split, left, right, way), told.couple(way, True))
                self.assertEqual(asked(self, joined, left, right, way), told.couple(way, False))
            else:
                self.assertEqual(asked(self, missed, left, way), told.missed(way))
        self.assertEqual(asked(self, split_words, left, right, table), told.couple(told.out_words, True))
        self.assertEqual(asked(self, joined_words, left, right, table), told.couple(told.out_words, False))
        self.assertEqual(asked(self, split_again, left, right, table), told.couple_again())
        for row in table[1]:
            self.assertEqual(asked(self, missed_words, left, right, table, row[0]), told.missed_words(row[0]))

    def test_couples_and_classes(self):
        for left, right, table in CASES.values():
            self.check_couples(left, right, table)

    def test_the_least_ones(self):
        kinds = (("num", ("a", "b", "c", "d")), ("truth", ("no", "yes")), ("word", ("bad", "deep", "off")))
        first = (("first", ("num",), "truth", ("yes", "no", "no", "yes")),)
        left, right = (kinds, first, ()), (kinds, (("half", ("num",), "truth", ("yes", "yes", "no", "no")),), ())
        way = ("num", "num", ("b", "c", "a", "c"))
        # Classes a d and b c on the left, a b and c d on the right.
        self.assertEqual(split(left, right, way), ("a", "d"))
        self.assertEqual(joined(left, right, way), ("a", "c"))
        self.assertEqual(split(left, right, ("num", "num", ("a", "c", "b", "b"))), ("b", "c"))
        self.assertIsNone(split(left, right, ("num", "num", ("a", "c", "d", "b"))))
        self.assertIsNone(joined(left, right, ("num", "num", ("a", "c", "d", "b"))))
        self.assertEqual(missed(left, ("num", "num", ("b", "", "c", ""))), (("a", "d"),))
        self.assertEqual(missed(left, ("num", "num", ("b", "d", "c", ""))), ())

    def test_random_tables(self):
        for seed in range(250):
            left, right = make.side(seed, 4, 4), make.side(seed + 5000, 4, 4)
            table = make.level_table(seed, left, right, 3, 3)
            self.check_couples(left, right, table)
            told = Faults(left, right, table)
            self.assertEqual(asked(self, tight_faults, left, right, table), told.tight())
            self.assertEqual(asked(self, faithful_faults, left, right, table), told.faithful())

    def test_at_the_bounds(self):
        left, right = make.full_side(1), make.full_side(2)
        table = make.table(3, left, right, 4, 3)
        self.assertIsInstance(tight_faults(left, right, table), tuple)
        self.assertIsInstance(faithful_faults(left, right, table), tuple)


if __name__ == "__main__":
    unittest.main()
