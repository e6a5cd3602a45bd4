"""Papers of likeness [26], beside a second telling of them, and beside runs."""

import collections
import random
import unittest

from besidealone.alone import run_alone
from besidealone.beside import run_beside
from besidealone.programs import is_part, is_partner
from besidealone.programtexts import show_part
from besidealone.relations import is_paper, paper
from besidealone.tables import faces, right_faces, ways_of
from besidealone.tight import split, split_words
from tests import make
from tests.reference_papers import Judge


def couple(seed, exports=2, imports=1):
    """Two small SIDES with some powers, a TABLE, and two PARTS that are alike or nearly so."""
    source = random.Random(seed)
    left, right = make.side(seed, 3, 2), make.side(seed + 10 ** 6, 3, 2)
    left = left[:2] + (tuple([power for power in make.POWERS if source.random() < 0.6]),)
    right = right[:2] + (tuple([power for power in make.POWERS if source.random() < 0.6]),)
    table = make.level_table(seed, left, right, exports, imports)
    one = make.lively_part(seed, left, faces(table), "plain")
    other = make.varied(seed, left, one) if source.random() < 0.8 else one
    return left, right, table, one, other


class Told(unittest.TestCase):

    def more(self, source, left, parts, found):
        """Values like a PAPER, with couples out and couples more."""
        kinds = [(kind, raw) for kind, raws in left[0] for raw in raws]
        told = []
        for _ in range(3):
            content = (source.choice(kinds), source.choice(kinds))
            told.append((found[0], tuple(sorted(set(found[1] + (content,))))))
            states = [tuple([source.choice([()] + kinds) if kind == "thing" else source.choice(dict(left[0])[kind])
                             for _, kind, _ in part[0]]) for part in parts]
            told.append((tuple(sorted(set(found[0] + (tuple(states),)))), found[1]))
        for at, lot in enumerate(found):
            for place in range(min(3, len(lot))):
                less = lot[:place] + lot[place + 1:]
                told.append((less, found[1]) if at == 0 else (found[0], less))
        return told

    def test_beside_a_second_telling(self):
        met = collections.Counter()
        for seed in range(230):
            left, right, table, one, other = couple(seed)
            if not is_part(left, faces(table), other) or max(
                    [show_part(left, faces(table), part).count("call") for part in (one, other)]) > 2:
                continue
            for where in ("alone", "beside"):
                judge = Judge(left, right, table, where, (one, other), 4)
                found = paper(left, right, table, where, one, other)
                self.assertEqual(found, judge.least(), (seed, where))
                met[where, judge.remembers, judge.marks, found is not None] += 1
                if found:
                    for thing in self.more(random.Random(seed), left, (one, other), found):
                        want = judge.judge(thing)
                        self.assertIs(is_paper(left, right, table, where, one, other, thing), want, (seed, where, thing))
                        met[want] += 1
        self.assertGreater(met[True], 200)
        self.assertGreater(met[False], 100)
        for where in ("alone", "beside"):
            for remembers in (True, False):
                self.assertGreater(met[where, remembers, False, True], 10)
            self.assertGreater(met[where, True, True, True], 3)


class Exactly(unittest.TestCase):
    """Where [26] says so there is a PAPER exactly if no PARTNER parts both PARTS."""

    def parted(self, left, right, table, where, parts, many):
        side, own = (left, faces(table)) if where == "alone" else (right, right_faces(table))
        for seed in range(many):
            partner = make.aimed_partner(seed, side, own)
            self.assertTrue(is_partner(side, own, partner))
            ends = [run_alone(left, table, part, partner, 400)[0] if where == "alone" else
                    run_beside(left, right, table, part, partner, 400)[0] for part in parts]
            if "on" not in ends and (ends[0] == "yes") != (ends[1] == "yes"):
                return True
        return False

    def is_asked(self, left, right, table, where, parts):
        """Whether [26] says EXACTLY IF."""
        live = where == "alone" or table[3][1] == "live"
        side = left if where == "alone" else right
        remembers = not table[1] or ("keep" in side[2] and live)
        if not remembers and any(part[0] for part in parts):
            return False
        outs = [way for _, place, way in ways_of(table) if place == "out"]
        return where == "alone" or not (split_words(left, right, table) or any(split(left, right, way) for way in outs))

    def test_where_there_is_a_paper_and_where_there_is_none(self):
        met = collections.Counter()
        for seed in range(500):
            left, right, table, one, other = couple(seed, 2, 2)
            if ("thing",) in [way for row in table[0] for way in row[1:]] or one == other or not is_part(left, faces(table), other):
                continue
            for where in ("alone", "beside"):
                found = paper(left, right, table, where, one, other)
                parted = self.parted(left, right, table, where, (one, other), 60 if found else 300)
                self.assertFalse(found and parted, (seed, where))
                if self.is_asked(left, right, table, where, (one, other)):
                    met[where, found is not None, parted] += 1
        for where in ("alone", "beside"):
            self.assertGreater(met[where, True, False], 40)
            self.assertGreater(met[where, False, True], 20)
            # A row may be so long that none of these partners plays it.
            self.assertLess(met[where, False, False] * 6, met[where, False, True])


if __name__ == "__main__":
    unittest.main()
