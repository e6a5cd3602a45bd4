"""BOOKS of rules [36], HEAPS [37]."""

import collections
import itertools
import random
import unittest

from besidealone.books import is_book, is_safe
from besidealone.heaps import behind, can_come, is_wrong_row, new_heaps, wrong_row
from tests import reference_heaps
from tests.helpers import ANY, asked, assert_tells, changed

GOOD = ("kept", 1, 0, 1, 1, "own", "live", "ahead", "index")
WORDS = (("always", "never", "own"), ("any", "live"), ("ahead", "behind"), ("address", "index"))
SMALL = [(way, *numbers, *words) for way in ("fresh", "kept") for numbers in itertools.product(range(3), range(2), range(3), range(3))
         for words in itertools.product(*WORDS)]


def book(source, top=3):
    """A BOOK, which often is nearly safe."""
    up = source.randint(0, top)
    down = up if source.random() < 0.7 else source.randint(0, top)
    return (source.choice(("fresh", "kept")), up, source.choice((0, 0, 0, 1, 2)), down, source.choice((1, 1, 1, 1, 0, 2)),
            *[source.choice(words) for words in WORDS])


class Books(unittest.TestCase):

    def book_ok(self, thing):
        if type(thing) is not tuple or len(thing) != 9:
            return False
        if not all([type(number) is int and number >= 0 for number in thing[1:5]]):
            return False
        rooms = (("fresh", "kept"),) + WORDS
        return all([type(word) is str and word in room for word, room in zip(thing[:1] + thing[5:], rooms)])

    def test_is_book(self):
        for told in SMALL[::7]:
            assert_tells(self, is_book, (), told, True)
        for thing in ANY:
            assert_tells(self, is_book, (), thing, False)
        assert_tells(self, is_book, (), GOOD[:1] + (10 ** 39, 10 ** 39, 10 ** 39, 1) + GOOD[5:], True)
        for thing in changed(GOOD, ("fresh", "kept", "always", "never", "own", "any", "live", "ahead", "behind", "address", "index")):
            assert_tells(self, is_book, (), thing, self.book_ok(thing))
        for at in range(1, 5):
            for number in (True, False, -1, -10 ** 39, "1", None, 1.5):
                assert_tells(self, is_book, (), GOOD[:at] + (number,) + GOOD[at + 1:], False)

    def test_each_sentence(self):
        # Safe ones, and for each sentence some that break just this one.
        assert_tells(self, is_safe, (), GOOD, True)
        for at, word, want in ((4, 0, False), (4, 2, False), (1, 0, False), (1, 2, False), (3, 2, False), (3, 0, False), (2, 1, False),
                               (8, "address", False), (5, "never", True), (6, "any", True), (5, "always", True), (7, "behind", True)):
            assert_tells(self, is_safe, (), GOOD[:at] + (word,) + GOOD[at + 1:], want)
        for strike, find, drain, want in (("never", "any", "ahead", False), ("never", "any", "behind", False), ("own", "any", "behind", False),
                                          ("always", "live", "behind", False), ("always", "any", "ahead", True), ("never", "live", "behind", True),
                                          ("own", "live", "behind", True), ("never", "live", "ahead", True), ("always", "any", "behind", False)):
            assert_tells(self, is_safe, (), GOOD[:5] + (strike, find, drain, "index"), want)
            assert_tells(self, is_safe, (), GOOD[:5] + (strike, find, drain, "address"), False)
            for more in (0, 3):
                assert_tells(self, is_safe, (), ("fresh", 2, more, 2, 1, strike, find, drain, "address"), True)
            assert_tells(self, is_safe, (), ("fresh", 2, 0, 1, 1, strike, find, drain, "index"), False)
            assert_tells(self, is_safe, (), ("fresh", 0, 0, 0, 1, strike, find, drain, "index"), False)
            assert_tells(self, is_safe, (), ("fresh", 1, 0, 1, 0, strike, find, drain, "index"), False)

    def test_against_rows(self):
        # wrong_row finds a row just where is_safe tells that there is one; no shorter one goes WRONG.
        met = collections.Counter()
        for at, told in enumerate(SMALL):
            row = wrong_row(told) if at % 9 else asked(self, wrong_row, told)
            self.assertEqual(row is None, is_safe(told))
            if row is None:
                continue
            met[len(row)] += 1
            self.assertLessEqual(len(row), 6)
            self.assertIs(is_wrong_row(told, row), True)
            if at % 12 == 0:
                self.assertEqual(reference_heaps.shortest(told, len(row)), len(row))
        self.assertEqual(sorted(met), [2, 3, 4, 5, 6])

    def test_safe_ones_never_go_wrong(self):
        safe = [told for told in SMALL if is_safe(told)]
        self.assertGreater(len(safe), 30)
        for told in safe[::5]:
            self.assertIsNone(reference_heaps.shortest(told, 4))
        for seed in range(150):
            source = random.Random(seed)
            told = safe[seed % len(safe)]
            heaps = new_heaps()
            for _ in range(60):
                event = source.choice(reference_heaps.events(heaps) if len(heaps[1]) < 5 else [("cross",)])
                found = behind(told, heaps, event)
                self.assertEqual(found[0], "heaps", (told, heaps, event))
                heaps = found[1]

    def test_great_numbers(self):
        many = 10 ** 39
        for told, want in ((("fresh", many, 0, many, 1) + GOOD[5:], None), (("fresh", many, 0, many + 1, 1) + GOOD[5:], 3),
                           (("fresh", many + 1, 0, many, 1) + GOOD[5:], 4), (("fresh", many, 0, many, many) + GOOD[5:], 6),
                           (("kept", many, many, many, 1) + GOOD[5:], 5), (("kept", many, 0, many, 0) + GOOD[5:], 5)):
            row = asked(self, wrong_row, told)
            self.assertEqual(row and len(row), want)
            if row:
                self.assertIs(is_wrong_row(told, row), True)


def run(told, *events):
    """What HEAPS become by a row."""
    heaps = ("heaps", new_heaps())
    for event in events:
        assert heaps[0] == "heaps"
        heaps = behind(told, heaps[1], event)
    return heaps


class Heaps(unittest.TestCase):

    def test_begin(self):
        self.assertEqual(asked(self, new_heaps), (((0, 1, 1),), (), (), ()))

    def event_ok(self, heaps, thing):
        """Whether a value is an EVENT that can come, told once more."""
        things, handles, _, _ = heaps
        if type(thing) is not tuple or not thing or type(thing[0]) is not str:
            return False
        if thing[0] in ("new", "cross"):
            return len(thing) == 1
        if len(thing) != 2:
            return False
        if thing[0] == "move":
            alive = [address for _, address in handles if address is not None]
            return type(thing[1]) is tuple and all([type(own) is int and own >= 0 for own in thing[1]]) and (
                len(thing[1]) == len(alive) == len(set(thing[1])))
        if type(thing[1]) is not int or thing[1] < 0:
            return False
        if thing[0] in ("copy", "drop", "out"):
            return thing[1] < len(things) and things[thing[1]] is not None and things[thing[1]][2] > 0
        return thing[0] in ("home", "die") and thing[1] < len(handles) and handles[thing[1]][1] is not None

    def some_heaps(self):
        """HEAPS with freed things, dead and moved HANDLES, HANDLES on the line."""
        lazy = GOOD[:5] + ("never", "live", "ahead", "index")
        rows = [(), (("new",), ("out", 1), ("out", 0), ("die", 1)), (("new",), ("drop", 1), ("new",)), (("out", 0), ("die", 0), ("cross",)),
                (("out", 0), ("new",), ("out", 1), ("move", (9, 4)), ("die", 1)), (("new",), ("drop", 0), ("out", 1), ("home", 0), ("drop", 1)),
                (("out", 0), ("drop", 0)), (("out", 0), ("drop", 0), ("die", 0), ("cross",)), (("out", 0), ("die", 0), ("out", 0), ("move", (0,)))]
        return [run(lazy, *row)[1] for row in rows]

    def test_can_come(self):
        numbers = (-1, 0, 1, 2, 5, True, False, None, "0", (0,), 10 ** 39)
        near = [(head,) for head in ("new", "cross", "copy", "drop", "out", "home", "die", "move", "", "late")]
        near += [(head[0], number) for head in near for number in numbers]
        near += [("move", row) for many in range(4) for row in itertools.product((0, 1, 7, 10 ** 39), repeat=many)]
        near += [("move", (True,)), ("move", (-1,)), ("move", [0]), ("move", (0, "1")), ("out", 0, 0), ["new"], "new", ("move", None), ("cross", ())]
        met = collections.Counter()
        for heaps in self.some_heaps():
            for thing in near:
                want = self.event_ok(heaps, thing)
                self.assertIs(asked(self, can_come, heaps, thing), want, (heaps, thing))
                met[want] += 1
            for thing in ANY:
                self.assertIs(can_come(heaps, thing), False)
            for event in reference_heaps.events(heaps):
                self.assertIs(can_come(heaps, event), True)
        self.assertGreater(met[True], 40)

    def test_event_by_event(self):
        lost = GOOD[:5] + ("never", "live", "behind", "index")
        for told, row, want in (
                (GOOD, (("copy", 0),), (((0, 2, 2),), (), (), ())), (GOOD, (("drop", 0),), ((None,), (), (), ())),
                (GOOD, (("new",), ("new",)), (((0, 1, 1), (1, 1, 1), (2, 1, 1)), (), (), ())),
                (GOOD, (("new",), ("drop", 0), ("new",)), ((None, (1, 1, 1), (0, 1, 1)), (), (), ())),
                (GOOD, (("out", 0),), (((0, 2, 1),), ((0, 0),), (), ((0, 0, 0),))),
                (GOOD, (("out", 0), ("out", 0)), (((0, 2, 1),), ((0, 0),), (), ((0, 0, 0),))),
                (("fresh",) + GOOD[1:], (("out", 0), ("out", 0)), (((0, 3, 1),), ((0, 0), (0, 1)), (), ())),
                (GOOD, (("out", 0), ("home", 0)), (((0, 3, 2),), ((0, 0),), (), ((0, 0, 0),))),
                (GOOD, (("out", 0), ("die", 0)), (((0, 2, 1),), ((0, None),), (0,), ((0, 0, 0),))),
                (GOOD, (("out", 0), ("die", 0), ("cross",)), (((0, 1, 1),), ((0, None),), (), ())),
                (lost, (("out", 0), ("die", 0), ("cross",)), (((0, 1, 1),), ((0, None),), (), ((0, 0, 0),))),
                (GOOD, (("out", 0), ("die", 0), ("out", 0)), (((0, 2, 1),), ((0, None), (0, 0)), (), ((0, 1, 0),))),
                (lost, (("out", 0), ("die", 0), ("out", 0)), (((0, 2, 1),), ((0, None), (0, 0)), (), ((0, 1, 0),))),
                (GOOD, (("out", 0), ("move", (7,))), (((0, 2, 1),), ((0, 7),), (), ((0, 0, 0),))),
                (GOOD, (("new",), ("out", 1), ("out", 0), ("move", (3, 0)), ("die", 1), ("drop", 1), ("cross",)),
                 (((0, 1, 1), (1, 1, 0)), ((1, 3), (0, None)), (), ((1, 0, 0),))),
                (GOOD, (("new",), ("out", 1), ("out", 0), ("move", (3, 1)), ("new",), ("out", 2)),
                 (((0, 2, 1), (1, 2, 1), (2, 2, 1)), ((1, 3), (0, 1), (2, 0)), (), ((0, 1, 1), (1, 0, 0), (2, 2, 0)))),
                (GOOD, (("move", ()), ("cross",)), (((0, 1, 1),), (), (), ())),
                (GOOD[:2] + (2,) + GOOD[3:], (("out", 0), ("out", 0)), (((0, 4, 1),), ((0, 0),), (), ((0, 0, 0),)))):
            self.assertEqual(run(told, *row), ("heaps", want), row)

    def test_each_way_to_go_wrong(self):
        any_way = GOOD[:6] + ("any", "ahead", "index")
        for told, row, want in (
                (GOOD[:3] + (2,) + GOOD[4:], (("out", 0), ("die", 0), ("cross",)), "early"),
                (GOOD[:1] + (0,) + GOOD[2:], (("out", 0), ("drop", 0)), "early"),
                (("fresh", 1, 0, 2, 1) + GOOD[5:], (("out", 0), ("out", 0), ("drop", 0), ("die", 0), ("die", 1), ("cross",)), "early"),
                (("fresh", 0, 0, 1, 1) + GOOD[5:], (("copy", 0), ("out", 0), ("die", 0), ("drop", 0), ("drop", 0)), None),
                (("fresh", 1, 0, 3, 1) + GOOD[5:], (("out", 0), ("drop", 0), ("die", 0), ("cross",)), "early"),
                (GOOD[:8] + ("address",), (("out", 0), ("move", (3,)), ("out", 0)), "second"),
                (GOOD[:6] + ("any", "ahead", "address"), (("out", 0), ("move", (3,)), ("out", 0)), "other"),
                (GOOD[:6] + ("any", "ahead", "address"), (("new",), ("out", 0), ("out", 1), ("move", (1, 0)), ("out", 0)), "other"),
                (GOOD[:5] + ("never",) + any_way[6:], (("out", 0), ("die", 0), ("out", 0)), "other"),
                (GOOD[:5] + ("always", "live", "behind", "index"), (("out", 0), ("die", 0), ("out", 0), ("out", 0)), "second"),
                (("fresh", 2, 0, 1, 1) + GOOD[5:], (("out", 0), ("die", 0), ("cross",), ("drop", 0)), "late"),
                (("fresh", 2, 0, 1, 1) + GOOD[5:], (("out", 0), ("drop", 0), ("die", 0), ("cross",)), "late"),
                (("fresh", 1, 0, 1, 2) + GOOD[5:], (("out", 0), ("home", 0), ("die", 0), ("drop", 0), ("cross",), ("drop", 0)), "late")):
            found = ("heaps", new_heaps())
            for at, event in enumerate(row):
                self.assertEqual(found[0], "heaps", row)
                if not can_come(found[1], event):
                    self.assertIsNone(want)
                    break
                found = behind(told, found[1], event)
            if want:
                self.assertEqual(found, ("wrong", want), row)
                self.assertIs(is_wrong_row(told, row), True)

    def test_which_one_comes_first(self):
        # Ahead of its own deed a crossing works the line off, or behind it.
        for drain, want in (("ahead", "early"), ("behind", "other")):
            told = ("kept", 1, 0, 2, 1, "never", "any", drain, "address")
            self.assertEqual(run(told, ("out", 0), ("die", 0), ("out", 0)), ("wrong", want))
        # What is late is told only if nothing else is.
        told = ("fresh", 1, 0, 2, 1) + GOOD[5:]
        self.assertEqual(run(told, ("new",), ("out", 0), ("out", 1), ("drop", 1), ("die", 1), ("die", 0), ("cross",)), ("wrong", "early"))

    def test_against_the_second_telling(self):
        met = collections.Counter()
        for seed in range(900):
            source = random.Random(seed)
            told = book(source)
            heaps = new_heaps()
            for at in range(30):
                event = source.choice(reference_heaps.events(heaps) if len(heaps[1]) < 6 else [("cross",), ("die", 0)])
                if not can_come(heaps, event):
                    break
                found = behind(told, heaps, event) if at % 10 else asked(self, behind, told, heaps, event)
                self.assertEqual(found, reference_heaps.behind(told, heaps, event), (told, heaps, event))
                met[found[0] if found[0] == "heaps" else found[1]] += 1
                if found[0] == "wrong":
                    break
                heaps = found[1]
        for word in ("early", "other", "second", "late"):
            self.assertGreater(met[word], 10, word)

    def test_is_wrong_row(self):
        met = collections.Counter()
        for seed in range(400):
            source = random.Random(seed)
            told = book(source)
            heaps, row, end = new_heaps(), (), False
            for _ in range(12):
                event = source.choice(reference_heaps.events(heaps) if len(heaps[1]) < 5 else [("cross",)])
                row += (event,)
                found = reference_heaps.behind(told, heaps, event)
                if found[0] == "wrong":
                    end = True
                    break
                heaps = found[1]
            self.assertIs(asked(self, is_wrong_row, told, row), end)
            self.assertIs(is_wrong_row(told, row + (("cross",),)), not end and self.goes_wrong(told, row + (("cross",),)))
            self.assertIs(is_wrong_row(told, row[:-1]), False)
            self.assertIs(is_wrong_row(told, list(row)), False)
            self.assertIs(is_wrong_row(told, (("home", 0),) + row), False)
            met[end] += 1
        self.assertGreater(min(met[True], met[False]), 40)
        lean = GOOD[:3] + (2,) + GOOD[4:]
        row = (("out", 0), ("die", 0), ("cross",))
        for thing in ANY + ((),):
            self.assertIs(asked(self, is_wrong_row, lean, thing), False)
        for thing in changed(row, ("out", "die", "cross", "new")):
            want = type(thing) is tuple and self.goes_wrong(lean, thing)
            self.assertIs(is_wrong_row(lean, thing), want, thing)

    def goes_wrong(self, told, row):
        heaps = new_heaps()
        for at, event in enumerate(row):
            if not self.event_ok(heaps, event):
                return False
            head, heaps = reference_heaps.behind(told, heaps, event)
            if head == "wrong":
                return at == len(row) - 1
        return False

    def test_long_rows(self):
        row = (("copy", 0),) * 2900
        self.assertIs(is_wrong_row(GOOD, row), False)
        self.assertIs(is_wrong_row(GOOD[:1] + (0,) + GOOD[2:], row + (("out", 0),) + (("drop", 0),) * 2901), True)
        heaps = run(GOOD, *[("new",)] * 300, *[("out", at) for at in range(300)])
        self.assertEqual(heaps[1][1][-1], (299, 299))


if __name__ == "__main__":
    unittest.main()
