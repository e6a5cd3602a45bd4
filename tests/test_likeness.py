"""[16] likeness."""

import itertools
import unittest

from besidealone.likeness import are_alike, class_of, classes, is_likeness, likeness
from tests import make, reference
from tests.helpers import ANY, asked, assert_tells, changed, strings_in

TRUTH = ("truth", ("no", "yes"))
WORD = ("word", ("low", "odd"))
NUM = ("num", ("a", "b", "c", "d"))
NEXT = ("next", ("num",), "num", ("b", "c", "d", "d"))
LAST = ("last", ("num",), "truth", ("no", "no", "no", "yes"))
FIRST = ("first", ("num",), "truth", ("yes", "no", "no", "no"))


def chain(many):
    """A SIDE with so many RAWS of num that are told apart only behind many operations."""
    raws = "abcdefghijklmnopqrstuvwxyz"[:many]
    following = ("next", ("num",), "num", tuple(raws[1:] + raws[-1]))
    return ((("num", tuple(raws)), TRUTH, WORD), (("last", ("num",), "truth", ("no",) * (many - 1) + ("yes",)), following),
            ())


def asked_all(test, side):
    """classes, class_of, are_alike and likeness tell the same, which is returned: the CLASSES by KINDS."""
    found = asked(test, likeness, side)
    test.assertEqual([kind for kind, lots in found], [kind for kind, raws in side[0]])
    for (kind, lots), (_, raws) in zip(found, side[0]):
        test.assertEqual(asked(test, classes, side, kind), lots)
        for one in raws:
            own = asked(test, class_of, side, kind, one)
            test.assertEqual([lot for lot in lots if one in lot], [own])
            for other in raws:
                test.assertIs(asked(test, are_alike, side, kind, one, other), other in own)
    return dict(found)


class Likeness(unittest.TestCase):

    def test_truth_alone_is_told_apart_without_operations(self):
        found = asked_all(self, ((NUM, TRUTH, WORD), (), ()))
        self.assertEqual(found, {"num": (NUM[1],), "truth": (("no",), ("yes",)), "word": (("low", "odd"),)})

    def test_told_apart_at_once(self):
        found = asked_all(self, ((NUM, TRUTH, WORD), (FIRST,), ()))
        self.assertEqual(found["num"], (("a",), ("b", "c", "d")))

    def test_told_apart_behind_operations(self):
        self.assertEqual(asked_all(self, ((NUM, TRUTH, WORD), (LAST, NEXT), ()))["num"], (("a",), ("b",), ("c",), ("d",)))
        self.assertEqual(asked_all(self, ((NUM, TRUTH, WORD), (NEXT,), ()))["num"], (NUM[1],))
        found = asked_all(self, chain(26))
        self.assertEqual(len(found["num"]), 26)

    def test_classes_that_do_not_stand_side_by_side(self):
        odd = ("odd", ("num",), "truth", ("no", "yes", "no", "yes"))
        self.assertEqual(asked_all(self, ((NUM, TRUTH, WORD), (odd,), ()))["num"], (("a", "c"), ("b", "d")))

    def test_through_two_and_three_kinds(self):
        kinds = (("bit", ("i", "o")), NUM, TRUTH, WORD)
        bits = ("bits", ("num",), "bit", ("i", "i", "o", "o"))
        on = ("on", ("bit",), "truth", ("yes", "no"))
        words = ("say", ("word",), "num", ("b", "c"))
        found = asked_all(self, (kinds, (bits, on, words), ()))
        self.assertEqual([found["bit"], found["num"], found["word"]],
                         [(("i",), ("o",)), (("a", "b"), ("c", "d")), (("low",), ("odd",))])
        found = asked_all(self, (kinds, (bits, words), ()))
        self.assertEqual([found["bit"], found["num"], found["word"]], [(("i", "o"),), (NUM[1],), (WORD[1],)])

    def test_with_other_raws_beside_it(self):
        same = ("same", ("num", "num"), "truth", tuple(["yes" if one == other else "no" for one, other in
                                                       itertools.product("abcd", repeat=2)]))
        self.assertEqual(len(asked_all(self, ((NUM, TRUTH, WORD), (same,), ()))["num"]), 4)
        only = ("only", ("word", "num"), "truth", ("no",) * 4 + ("no", "no", "yes", "no"))
        found = asked_all(self, ((NUM, TRUTH, WORD), (only,), ()))
        self.assertEqual([found["num"], found["word"]], [(("a", "b", "d"), ("c",)), (("low",), ("odd",))])

    def test_an_operation_over_truths_tells_nothing_more(self):
        made = ("made", ("truth",), "num", ("a", "b"))
        self.assertEqual(asked_all(self, ((NUM, TRUTH, WORD), (made,), ()))["num"], (NUM[1],))

    def test_against_all_terms(self):
        for seed in range(120):
            side = make.side(seed, 4, 3, 4)
            found = asked_all(self, side)
            self.assertEqual(found, {kind: reference.classes(side, kind) for kind, _ in side[0]})


def partitions(raws):
    """All tuples of lots of RAWS."""
    if not raws:
        return [()]
    found = []
    for lots in partitions(raws[1:]):
        found.append(((raws[0],),) + lots)
        for at, lot in enumerate(lots):
            found.append(lots[:at] + ((raws[0],) + lot,) + lots[at + 1:])
    return [tuple(sorted(lots)) for lots in found]


class IsLikeness(unittest.TestCase):

    def test_the_classes_are_one(self):
        for seed in range(60):
            side = make.side(seed, 5, 5, 5)
            assert_tells(self, is_likeness, (side,), likeness(side), True)

    def test_finer_and_coarser_partitions(self):
        told = {True: 0, False: 0}
        for seed in range(40):
            side = make.side(seed, 4, 3, 3)
            for lots in itertools.product(*[partitions(raws) for _, raws in side[0]]):
                thing = tuple(zip([kind for kind, _ in side[0]], lots))
                want = reference.likeness_ok(side, thing)
                told[want] += 1
                self.assertIs(is_likeness(side, thing), want)
                if want:
                    self.assertLessEqual(sum(map(len, dict(likeness(side)).values())), sum(map(len, lots)))
        self.assertGreater(min(told.values()), 100)

    def test_single_raws_always_are_one(self):
        for seed in range(20):
            side = make.side(seed, 5, 4, 4)
            finest = tuple([(kind, tuple([(raw,) for raw in raws])) for kind, raws in side[0]])
            assert_tells(self, is_likeness, (side,), finest, True)
            one = tuple([(kind, (raws,)) for kind, raws in side[0]])
            assert_tells(self, is_likeness, (side,), one, False)

    def test_one_thing_changed_at_any_depth(self):
        side = ((NUM, TRUTH, WORD), (FIRST, ("next", ("num",), "num", ("b", "a", "d", "d"))), ())
        told = {True: 0, False: 0}
        for thing in changed(likeness(side), sorted(strings_in(side))):
            want = reference.likeness_ok(side, thing)
            told[want] += 1
            self.assertIs(is_likeness(side, thing), want, thing)
        self.assertGreater(told[False], 500)

    def test_lots(self):
        side = ((TRUTH, WORD), (), ())
        truth = ("truth", (("no",), ("yes",)))
        for lots, want in (((("low", "odd"),), True), ((("low",), ("odd",)), True), ((("odd",), ("low",)), False),
                           ((("odd", "low"),), False), ((("low",),), False), ((("low", "odd"), ("odd",)), False),
                           (((), ("low", "odd")), False), ((), False), ((("low", "low", "odd"),), False),
                           ([("low", "odd")], False), ((["low", "odd"],), False), ((("low", "odd", "zz"),), False)):
            assert_tells(self, is_likeness, (side,), (truth, ("word", lots)), want)
        word = ("word", (("low", "odd"),))
        for thing in ((word, truth), (truth,), (truth, word, word), [truth, word], (("truth", (("no", "yes"),)), word),
                      (truth, ["word", word[1]]), (truth, ("ward", word[1]))):
            assert_tells(self, is_likeness, (side,), thing, False)

    def test_any_value(self):
        side = ((TRUTH, WORD), (), ())
        for thing in ANY:
            assert_tells(self, is_likeness, (side,), thing, False)
            assert_tells(self, is_likeness, (side,), (thing, ("word", (WORD[1],))), False)
            assert_tells(self, is_likeness, (side,), (("truth", thing), ("word", (WORD[1],))), False)
            assert_tells(self, is_likeness, (side,), (("truth", (("no",), thing)), ("word", (WORD[1],))), False)


if __name__ == "__main__":
    unittest.main()
