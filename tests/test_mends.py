"""Least changes that make a TABLE right [34]."""

import collections
import itertools
import random
import unittest

from besidealone.faithful import faithful_faults
from besidealone.mends import is_mended_into, is_mended_out, mended_into, mended_out, mode_mends
from besidealone.prices import assigned
from besidealone.sides import with_powers
from besidealone.tables import with_modes
from besidealone.tight import tight_faults
from tests import make, scenes
from tests.cases import CASES, MODES, all_of
from tests.helpers import ANY, asked, changed
from tests.reference_faults import Alike, Faults

WISHES = ("tight", "faithful", "both")


class Modes(unittest.TestCase):

    def told(self, left, right, table, wish, is_big=False):
        """All least lots of modes, by trying all TABLES with other modes."""
        good = []
        for modes in MODES:
            own = with_modes(table, modes)
            if is_big:
                tight, faithful = tight_faults(left, right, own), faithful_faults(left, right, own)
            else:
                faults = Faults(left, right, own)
                tight, faithful = faults.tight(), faults.faithful()
            if (wish == "faithful" or not tight) and (wish == "tight" or not faithful):
                good.append({at for at in range(4) if modes[at] != table[3][at]})
        return tuple(sorted([tuple(sorted(lot)) for lot in good if not any(other < lot for other in good)]))

    def test_all_powers_and_modes(self):
        met = collections.Counter()
        for at, name in enumerate(CASES):
            for left, right, table in all_of(name, 149, at):
                for wish in WISHES:
                    found = asked(self, mode_mends, left, right, table, wish)
                    self.assertEqual(found, self.told(left, right, table, wish))
                    met.update([(wish, "none")] if not found else [(wish, len(lot)) for lot in found])
        for wish in WISHES:
            for many in ("none", 0, 1):
                self.assertGreater(met[wish, many], 10)
        self.assertGreater(met["tight", 2] + met["both", 2], 3)

    def test_several_ways_out(self):
        # Either failing has to stop, or calls must not come again while an import waits, or imports must be tabled.
        left, right, table = CASES["words that come back unlike"]
        left, right = with_powers(left, ("again", "catch", "keep")), with_powers(right, ("again", "keep"))
        self.assertEqual(tight_faults(left, right, table), (("T2",),))
        self.assertEqual(mode_mends(left, right, table, "tight"), ((0,), (1,), (2,)))
        self.assertEqual(mode_mends(left, right, table, "both"), ())
        self.assertIn(("F3",), faithful_faults(left, right, table))

    def test_at_the_bounds(self):
        for seed in range(2):
            left, right, table = scenes.full(seed)
            for wish in WISHES:
                self.assertEqual(mode_mends(left, right, table, wish), self.told(left, right, table, wish, True))


class Ways(unittest.TestCase):

    def couples(self, left, right, way):
        """All couples of unlike RAWS where a WAY begins, with whether they are ALIKE."""
        return [(one, other, left(way[0], one, other)) for one, other in itertools.combinations(left.raws[way[0]], 2)]

    def most_staying(self, left, right, way, wish):
        """The most RAWS that stay by a WAY as wished, by trying all of them; -1 if there is none."""
        most = -1
        raws = left.raws[way[0]]
        couples = self.couples(left, right, way)
        for ends in itertools.product(right.raws[way[1]], repeat=len(raws)):
            led = dict(zip(raws, ends))
            good = True
            for one, other, alike in couples:
                ends_alike = right(way[1], led[one], led[other])
                if (alike and not ends_alike and wish != "faithful") or (ends_alike and not alike and wish != "tight"):
                    good = False
                    break
            if good:
                most = max(most, sum(end == elder for end, elder in zip(ends, way[2])))
        return most

    def sides(self, seed):
        source = random.Random(seed)
        left, right = make.side(seed, 4, 4, 3), make.side(seed + 90000, 4, 4, 3)
        return source, left, right

    def test_out_against_all_ways(self):
        met = collections.Counter()
        for seed in range(260):
            source, left, right = self.sides(seed)
            words = ("word", "word", tuple([source.choice(dict(right[0])["word"]) for _ in dict(left[0])["word"]]))
            for way in (make.way(source, left, right, False), words):
                for wish in WISHES:
                    found = asked(self, mended_out, left, right, way, wish)
                    most = self.most_staying(Alike(left), Alike(right), way, wish)
                    self.assertEqual(found is None, most < 0)
                    met[wish, found is None, found is not None and found[0] == way] += 1
                    if found:
                        self.assertEqual(sum(end == elder for end, elder in zip(found[0][2], way[2])), most)
                        self.assertEqual(sum(found[1][0] + found[1][1]), most)
                        self.assertIs(asked(self, is_mended_out, left, right, way, wish, found), True)
        for wish in WISHES:
            self.assertGreater(met[wish, False, True], 20)
            self.assertGreater(met[wish, False, False], 20)
            self.assertEqual(met[wish, True, False] > 0, wish != "tight")

    def out_ok(self, left, right, way, wish, thing):
        """The judge for outs, told once more."""
        if type(thing) is not tuple or len(thing) != 2:
            return False
        new, shown = thing
        if type(new) is not tuple or len(new) != 3 or new[:2] != way[:2] or type(new[2]) is not tuple or len(new[2]) != len(way[2]):
            return False
        if not all([type(raw) is str and raw in right.raws[way[1]] for raw in new[2]]):
            return False
        led = dict(zip(left.raws[way[0]], new[2]))
        for one, other, alike in self.couples(left, right, way):
            ends_alike = right(way[1], led[one], led[other])
            if (alike and not ends_alike and wish != "faithful") or (ends_alike and not alike and wish != "tight"):
                return False
        return self.paper_ok(left, right, way, wish, shown, sum(end == elder for end, elder in zip(new[2], way[2])))

    def lots(self, alike, kind):
        return sorted({tuple([other for other in alike.raws[kind] if alike(kind, one, other)]) for one in alike.raws[kind]})

    def paper_ok(self, left, right, way, wish, shown, staying):
        lots, ends = self.lots(left, way[0]), self.lots(right, way[1])
        if type(shown) is not tuple or len(shown) != 2:
            return False
        for own, told in zip(shown, (lots, ends)):
            if type(own) is not tuple or len(own) != len(told) or not all([type(number) is int for number in own]):
                return False
        if any(number < 0 or (wish == "tight" and number) for number in shown[1]):
            return False
        if wish == "faithful" and any(number > 0 for number in shown[0]):
            return False
        led = dict(zip(left.raws[way[0]], way[2]))
        for (lot, one), (end, other) in itertools.product(zip(lots, shown[0]), zip(ends, shown[1])):
            if one + other < sum(led[raw] in end for raw in lot):
                return False
        return staying == sum(shown[0]) + sum(shown[1])

    def test_judge_of_outs(self):
        met = collections.Counter()
        for seed in range(40):
            source, left, right = self.sides(seed)
            mine, theirs = Alike(left), Alike(right)
            way = make.way(source, left, right, False)
            for wish in WISHES:
                found = mended_out(left, right, way, wish)
                for thing in ANY if seed == 0 else ():
                    self.assertIs(asked(self, is_mended_out, left, right, way, wish, thing), False)
                things = [] if found is None or seed > 2 else list(changed(found, dict(right[0])[way[1]]))
                for _ in range(150):
                    new = way[:2] + (tuple([source.choice(dict(right[0])[way[1]]) for _ in way[2]]),)
                    numbers = [tuple([source.randint(-1, 2) for _ in own]) for own in (found[1] if found else ((), ()))]
                    things.append((new, found[1] if found and source.random() < 0.5 else tuple(numbers)))
                if found:
                    lefts, rights = found[1]
                    for at, many in itertools.product(range(len(lefts)), (-1, 1)):
                        things.append((found[0], (lefts[:at] + (lefts[at] + many,) + lefts[at + 1:], rights)))
                        things.append((found[0], (lefts[:at] + (lefts[at] + many,) + lefts[at + 1:], tuple([own - many for own in rights]))))
                    things.append((found[0], (tuple([bool(own) for own in lefts]), rights)))
                for thing in things:
                    want = self.out_ok(mine, theirs, way, wish, thing)
                    self.assertIs(is_mended_out(left, right, way, wish, thing), want, (way, wish, thing))
                    met[wish, want] += 1
        for wish in WISHES:
            self.assertGreater(met[wish, True], 40)

    def least_changed(self, left, right, way):
        """The fewest RAWS changed by a WAY that leads to each CLASS, by trying all of them; None if there is none."""
        least = None
        raws = right.raws[way[0]]
        for ends in itertools.product(left.raws[way[1]] + ("",), repeat=len(raws)):
            if self.is_good_into(left, right, way, ends):
                many = sum(end != elder for end, elder in zip(ends, way[2]))
                least = many if least is None else min(least, many)
        return least

    def keeps(self, left, right, way, ends):
        led = dict(zip(right.raws[way[0]], ends))
        for one, other in itertools.combinations(led, 2):
            if right(way[0], one, other):
                if "" in (led[one], led[other]):
                    if led[one] != led[other]:
                        return False
                elif not left(way[1], led[one], led[other]):
                    return False
        return True

    def is_good_into(self, left, right, way, ends):
        return left.reaches(way[1], [end for end in ends if end]) and self.keeps(left, right, way, ends)

    def ways_into(self, seeds):
        for seed in seeds:
            source, left, right = self.sides(seed)
            way = make.way(source, right, left, True)
            if self.keeps(Alike(left), Alike(right), way, way[2]):
                yield source, left, right, way

    def test_into_against_all_ways(self):
        met = collections.Counter()
        for _, left, right, way in self.ways_into(range(500)):
            found = asked(self, mended_into, left, right, way)
            least = self.least_changed(Alike(left), Alike(right), way)
            self.assertEqual(found is None, least is None)
            met[found is None, bool(least)] += 1
            if found:
                self.assertEqual(sum(end != elder for end, elder in zip(found[0][2], way[2])), least)
                self.assertEqual(sum(found[1][0]) - sum(found[1][1]), least)
                self.assertIs(asked(self, is_mended_into, left, right, way, found), True)
        self.assertGreater(min(met[False, False], met[False, True], met[True, False]), 20)

    def into_ok(self, left, right, way, thing):
        if type(thing) is not tuple or len(thing) != 2:
            return False
        new, shown = thing
        if type(new) is not tuple or len(new) != 3 or new[:2] != way[:2] or type(new[2]) is not tuple or len(new[2]) != len(way[2]):
            return False
        if not all([type(raw) is str and raw in left.raws[way[1]] + ("",) for raw in new[2]]):
            return False
        if not self.is_good_into(left, right, way, new[2]):
            return False
        lots, ends = self.lots(right, way[0]), self.lots(left, way[1])
        if type(shown) is not tuple or len(shown) != 2:
            return False
        for own, told in zip(shown, (ends, lots)):
            if type(own) is not tuple or len(own) != len(told) or not all([type(number) is int for number in own]):
                return False
        if any(number < 0 for number in shown[1]):
            return False
        led = dict(zip(right.raws[way[0]], way[2]))
        for (end, one), (lot, other) in itertools.product(zip(ends, shown[0]), zip(lots, shown[1])):
            if one > other + (0 if led[lot[0]] in end else len(lot)):
                return False
        return sum(end != elder for end, elder in zip(new[2], way[2])) == sum(shown[0]) - sum(shown[1])

    def test_judge_of_intos(self):
        met = collections.Counter()
        for number, (source, left, right, way) in enumerate(self.ways_into(range(120))):
            mine, theirs = Alike(left), Alike(right)
            found = mended_into(left, right, way)
            for thing in ANY if number == 0 else ():
                self.assertIs(asked(self, is_mended_into, left, right, way, thing), False)
            things = [] if found is None or number > 8 else list(changed(found, dict(left[0])[way[1]] + ("",)))
            for _ in range(100):
                new = way[:2] + (tuple([source.choice(dict(left[0])[way[1]] + ("",)) for _ in way[2]]),)
                numbers = [tuple([source.randint(-1, 2) for _ in own]) for own in (found[1] if found else ((), ()))]
                things.append((new, found[1] if found and source.random() < 0.5 else tuple(numbers)))
            if found:
                lefts, rights = found[1]
                for many in (-1, 1):
                    things.append((found[0], (tuple([own + many for own in lefts]), tuple([own + many for own in rights]))))
                    for at in range(len(lefts)):
                        things.append((found[0], (lefts[:at] + (lefts[at] + many,) + lefts[at + 1:], rights)))
            for thing in things:
                want = self.into_ok(mine, theirs, way, thing)
                self.assertIs(is_mended_into(left, right, way, thing), want, (way, thing))
                met[want] += 1
        self.assertGreater(met[True], 60)

    def test_at_the_bounds(self):
        for seed in range(8):
            source = random.Random(seed)
            left, right = make.full_side(seed), make.full_side(seed + 50)
            for _ in range(4):
                way = make.way(source, left, right, False)
                for wish in WISHES:
                    found = mended_out(left, right, way, wish)
                    if found:
                        self.assertIs(is_mended_out(left, right, way, wish, found), True)
                begin, end, _ = make.way(source, right, left, True)
                for raw in dict(left[0])[end] + ("",):
                    into = (begin, end, (raw,) * len(dict(right[0])[begin]))
                    found = mended_into(left, right, into)
                    if found:
                        self.assertIs(is_mended_into(left, right, into, found), True)

    def test_prices(self):
        for seed in range(400):
            source = random.Random(seed)
            rows = source.randint(1, 4)
            columns = source.randint(rows, 5)
            costs = [[source.randint(-4, 6) for _ in range(columns)] for _ in range(rows)]
            homes, mine, theirs = asked(self, assigned, costs, columns)
            least = min(sum(row[at] for row, at in zip(costs, told)) for told in itertools.permutations(range(columns), rows))
            self.assertEqual(len(set(homes)), rows)
            self.assertEqual(sum(row[at] for row, at in zip(costs, homes)), least)
            self.assertEqual(sum(mine) + sum(theirs), least)
            self.assertTrue(all(one + other <= costs[at][place] for at, one in enumerate(mine) for place, other in enumerate(theirs)))
            self.assertTrue(all(price <= 0 for price in theirs))


if __name__ == "__main__":
    unittest.main()
