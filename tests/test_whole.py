"""What the document promises over the whole program [1] to [11]."""

import collections
import random
import unittest

from besidealone.alone import run_alone
from besidealone.back import brought_back
from besidealone.beside import run_beside
from besidealone.books import is_safe
from besidealone.breaks import breaking, is_break, parting
from besidealone.compared import compared
from besidealone.errors import MixedError, NoCommand, NoName, NotRight, NoText, Nothing, TooMany, Wrong
from besidealone.faithful import faithful_faults
from besidealone.heapruns import run_on_heaps
from besidealone.losses import is_loss, losing
from besidealone.over import led_over
from besidealone.tables import faces, right_faces, with_modes
from besidealone.tight import tight_faults
from tests import make, scenes
from tests.reference_faults import Faults
from tests.test_heaps import book


def told(*given):
    """What compared tells: alike, parted, or nothing that can be told."""
    try:
        return compared(*given)[0]
    except Nothing:
        return "unasked"
    except TooMany as error:
        # Beyond so many STEPS the PARTNER is there all the same.
        return "parted" if error.most == 200000 else "unasked"


class Whole(unittest.TestCase):

    def test_tight_and_faithful(self):
        # [8], [9]: what is ALIKE on the one SIDE is so on the other one, where all sentences hold.
        met = collections.Counter()
        for seed in range(1600):
            source = random.Random(seed)
            left, right, table = scenes.tables(seed, True)
            if source.random() < 0.7:
                more = left[2] if source.random() < 0.5 else tuple([power for power in right[2] if power in left[2]])
                right = right[:2] + (more,)
            tight, faithful = tight_faults(left, right, table) == (), faithful_faults(left, right, table) == ()
            if not tight and not faithful:
                continue
            one, other = scenes.parts(seed, left, table, "plain")
            alone, beside = [told(left, right, table, where, one, other) for where in ("alone", "beside")]
            if tight:
                self.assertNotEqual((alone, beside), ("alike", "parted"), seed)
                met["tight", alone, beside] += 1
            if faithful:
                self.assertNotEqual((beside, alone), ("alike", "parted"), seed)
                met["faithful", alone, beside] += 1
        for sort in ("tight", "faithful"):
            for word in ("alike", "parted"):
                self.assertGreater(met[sort, word, word], 20, (sort, word))

    def test_each_sentence_shows(self):
        # [8], [9], [10]: where one doesn't hold there are two PARTS, and one PARTNER.
        met = collections.Counter()
        for seed in range(150):
            left, right, table = scenes.tables(seed)
            for fault in tight_faults(left, right, table):
                self.assertIs(is_break(left, right, table, breaking(left, right, table, fault)), True)
                met[fault[0]] += 1
            if Faults(left, right, table).even():
                for fault in faithful_faults(left, right, table):
                    self.assertIs(is_loss(left, right, table, losing(left, right, table, fault)), True)
                    met[fault[0]] += 1
        self.assertGreater(min(met[fault] for fault in ("T1", "T2", "T3", "T5", "F1", "F2", "F3", "F4", "F5")), 2)

    def test_there_and_back(self):
        # [10]: what is brought back can be led over again, and the other way about.
        met = collections.Counter()
        for seed in range(900):
            left, right, table = scenes.tables(seed)
            right = right[:2] + (left[2],)
            if tight_faults(left, right, table) or faithful_faults(left, right, table):
                continue
            one, other = scenes.parts(seed, left, table)
            for at in range(4):
                partner = scenes.partner(seed * 4 + at, right, right_faces(table))
                which = parting(left, right, table, "beside", one, other, partner, 300)
                if which is None:
                    continue
                back = brought_back(left, right, table, one, other, partner, 300)
                self.assertEqual(parting(left, right, table, "alone", one, other, back, 200000), which)
                again = led_over(left, right, table, one, other, back, 200000)
                self.assertEqual(parting(left, right, table, "beside", one, other, again, 10 ** 6), which)
                met[which] += 1
        self.assertGreater(min(met["one"], met["other"]), 5)

    def test_safe_books(self):
        # [11]: with a safe BOOK each run ends as the run with HANDLES does.
        met = collections.Counter()
        for seed in range(500):
            source = random.Random(seed)
            left, right, table = scenes.tables(seed)
            rules = book(source)
            if not scenes.has_things(table) or not is_safe(rules):
                continue
            part, _ = scenes.parts(seed, left, table)
            for at in range(3):
                partner = make.lively_partner(seed * 3 + at, right, right_faces(table))
                collector = tuple([(step, source.randint(0, 3)) for step in range(0, 300, source.randint(1, 9))])
                end = run_on_heaps(left, right, table, part, partner, rules, collector, 300)[0]
                own = with_modes(table, table[3][:3] + (rules[0],))
                self.assertEqual(end, run_beside(left, right, own, part, partner, 300)[0])
                met[rules[0]] += 1
        self.assertGreater(min(met["fresh"], met["kept"]), 10)

    def test_handles_are_told_apart_by_nobody_who_lost_them(self):
        # Handles that are kept, or fresh: without same it counts for nothing.
        for seed in range(300):
            left, right, table = scenes.tables(seed)
            right = right[:2] + (tuple([power for power in right[2] if power != "same"]),)
            part, _ = scenes.parts(seed, left, table)
            partner = scenes.partner(seed, right, right_faces(table))
            runs = [run_beside(left, right, with_modes(table, table[3][:3] + (mode,)), part, partner, 300) for mode in ("kept", "fresh")]
            self.assertEqual(runs[0][:2], runs[1][:2])

    def test_errors(self):
        # [7]: each class of its own, with the very objects that it was made from.
        thing = [object()]
        for error, field in ((NoCommand, "line"), (NoName, "name"), (NoText, "line"), (NotRight, "faults"), (TooMany, "most"), (Wrong, "place")):
            made = error(thing)
            self.assertIs(getattr(made, field), thing)
            self.assertEqual(error.__mro__[1:3], (MixedError, ValueError))
        self.assertEqual(Nothing.__mro__[1:3], (MixedError, ValueError))
        self.assertIsInstance(Nothing(), MixedError)
        self.assertEqual(MixedError("a", 1).args, ("a", 1))

    def test_what_is_returned_may_be_passed_in_again(self):
        # [7]: PARTNERS that go beyond the bounds are run, shown and judged as others are.
        for seed in range(400):
            left, right, table = scenes.tables(seed)
            if "keep" not in left[2] or tight_faults(left, right, table):
                continue
            one, other = scenes.parts(seed, left, table)
            partner = scenes.partner(seed, right, right_faces(table))
            if parting(left, right, table, "beside", one, other, partner, 300) is None:
                continue
            back = brought_back(left, right, table, one, other, partner, 300)
            self.assertEqual(run_alone(left, table, one, back, 5000), run_alone(left, table, one, back, 5000))
            self.assertIn(parting(left, right, table, "alone", one, other, back, 200000), ("one", "other"))
            self.assertEqual(len(back[2]), len(faces(table)[1]))


if __name__ == "__main__":
    unittest.main()
