"""The House [39]."""

import itertools
import random
import unittest

from besidealone.alone import run_alone
from besidealone.beside import run_beside
from besidealone.breaks import parting
from besidealone.compared import compared
from besidealone.errors import MixedError, NoName, Nothing, TooMany, Wrong
from besidealone.faithful import faithful_faults
from besidealone.house import House
from besidealone.programtexts import read_part, read_partner
from besidealone.sides import with_powers
from besidealone.tables import faces, is_level, is_passable, right_faces, with_modes, with_way
from besidealone.tight import tight_faults
from tests import make, scenes
from tests.helpers import ANY, JUNK

BITS = (("bit", ("i", "o")), ("truth", ("no", "yes")), ("word", ("bad",)))
TESTS = (("on", ("bit",), "truth", ("yes", "no")),)
LEFT, RIGHT = (BITS, TESTS, ("keep",)), (BITS, TESTS, ("catch", "keep"))
WAY = ("bit", "bit", ("i", "o"))
TABLE = ((("f", WAY, WAY),), (), (("bad",), ("bad",), "bad", "bad", "bad"), ("crosses", "live", "let", "kept"))
FACES = faces(TABLE)
NAMES = ("", "A", "a b", "a" * 13, None, 3, True, (), ("a",), ["a"], {}, "a\n", b"a")
WHERES = ("", "alon", "left", "Alone", None, 0, True, ("alone",), [], {}, "besides")


def part(*lines):
    return read_part(LEFT, FACES, "\n".join(["body f", "var x bit"] + list(lines) + ["end"]))


def partner(side, *lines):
    return read_partner(side, FACES, "\n".join(["main", "var w word", "var x bit"] + list(lines) + ["end"]))


ECHO, FLAT, MUTE = part("answer given"), part("answer bit.i"), part()
FAILS = part("fail word.bad")
ASK = partner(LEFT, "call x f bit.o", "if !on x", "say yes", "else", "say no", "end")
TRY = partner(RIGHT, "try", "call x f bit.i", "catch w", "say yes", "end")


def house():
    found = House(LEFT, RIGHT, TABLE)
    for name, program in (("mute", MUTE), ("echo", ECHO), ("flat", FLAT), ("fails", FAILS)):
        found.put_part(name, program)
    found.put_partner("alone", "ask", ASK)
    found.put_partner("beside", "try", TRY)
    return found


class Houses(unittest.TestCase):

    def state(self, told):
        return repr((told.sides(), told.table(), told.parts(), told.partners("alone"), told.partners("beside")))

    def raises(self, error, told, call, *given, **fields):
        """A call raises an error with these fields, and changes nothing: neither what it is called of nor what it is passed."""
        before, passed = self.state(told), repr(given)
        twin = told.twin()
        with self.assertRaises(error, msg=(call, given)) as caught:
            getattr(told, call)(*given)
        self.assertIs(type(caught.exception), error)
        for field, want in fields.items():
            self.assertEqual(getattr(caught.exception, field), want, (call, given))
        self.assertEqual((self.state(told), repr(given)), (before, passed))
        self.assertEqual(told, twin)

    def wrong(self, told, place, name, *given):
        self.raises(Wrong, told, name, *given, place=place)

    def test_made(self):
        found = House(LEFT, RIGHT, TABLE)
        self.assertEqual((found.sides(), found.table()), ((LEFT, RIGHT), TABLE))
        self.assertEqual([found.parts(), found.partners("alone"), found.partners("beside")], [{}, {}, {}])
        other = (BITS[:1] + (("thing", ("a",)),) + BITS[1:], TESTS, ())
        for thing in ANY + (other, LEFT[:2]):
            for place, given in enumerate(((thing, RIGHT, TABLE), (LEFT, thing, TABLE), (LEFT, RIGHT, thing))):
                with self.assertRaises(Wrong) as caught:
                    House(*given)
                self.assertEqual(caught.exception.place, place)
        with self.assertRaises(Wrong) as caught:
            House(None, None, None)
        self.assertEqual(caught.exception.place, 0)
        blind = (BITS[1:], (), ())
        for given in ((LEFT, blind, TABLE), (blind, RIGHT, TABLE)):
            with self.assertRaises(Wrong) as caught:
                House(*given)
            self.assertEqual(caught.exception.place, 2)
        # It need not be PASSABLE, or LEVEL.
        closed = ((("f", ("bit", "bit", ("", "")), WAY),),) + TABLE[1:]
        self.assertEqual(House(LEFT, RIGHT, closed).table(), closed)

    def test_put_and_drop(self):
        found = House(LEFT, RIGHT, TABLE)
        self.assertIsNone(found.put_part("echo", ECHO))
        self.assertIsNone(found.put_part("b", FLAT))
        self.assertIsNone(found.put_part("echo", FLAT))
        self.assertEqual(list(found.parts().items()), [("b", FLAT), ("echo", FLAT)])
        for where, program in (("alone", ASK), ("beside", TRY)):
            self.assertIsNone(found.put_partner(where, "z", program))
            self.assertIsNone(found.put_partner(where, "a", partner(LEFT)))
            self.assertEqual(list(found.partners(where).items()), [("a", partner(LEFT)), ("z", program)])
            self.assertIsNone(found.drop_partner(where, "a"))
            self.assertEqual(list(found.partners(where)), ["z"])
            self.raises(NoName, found, "drop_partner", where, "a", name="a")
        self.assertIsNone(found.drop_part("echo"))
        self.assertEqual(found.parts(), {"b": FLAT})
        self.raises(NoName, found, "drop_part", "echo", name="echo")
        # One word may be the NAME of a PART and of PARTNERS.
        found.put_part("z", ECHO)
        self.assertEqual([list(found.parts()), list(found.partners("alone")), list(found.partners("beside"))], [["b", "z"], ["z"], ["z"]])

    def test_wrong_places(self):
        told = house()
        for name in NAMES:
            self.wrong(told, 0, "put_part", name, ECHO)
            self.wrong(told, 0, "put_part", name, None)
            self.wrong(told, 0, "drop_part", name)
            for where in ("alone", "beside"):
                self.wrong(told, 1, "put_partner", where, name, None)
                self.wrong(told, 1, "drop_partner", where, name)
                self.wrong(told, 1, "run", where, name, None, None)
                self.wrong(told, 2, "run", where, "none", name, None)
                self.wrong(told, 1, "compare", where, name, None)
                self.wrong(told, 2, "compare", where, "none", name)
        for where in WHERES + ANY:
            for call in (("put_partner", where, None, None), ("drop_partner", where, None), ("run", where, None, None, None), ("ends", where, None),
                         ("parted", where, None), ("compare", where, None, None), ("partners", where)):
                self.wrong(told, 0, *call)
        for thing in ANY + (ASK, ECHO[:1], ECHO + ((),), ((), ()), read_part(LEFT, (FACES[0] * 1, ()), "cell c bit i\nbody f\nend")[1:]):
            self.wrong(told, 1, "put_part", "echo", thing)
            for where in ("alone", "beside"):
                self.wrong(told, 2, "put_partner", where, "ask", ECHO if thing == ASK else thing)
            self.wrong(told, 0, "exchange", thing)
        for most in (-1, 20001, 10 ** 39, True, False, None, "1", (), 1.0):
            for where in ("alone", "beside"):
                self.wrong(told, 3, "run", where, "none", "none", most)
                self.wrong(told, 1, "ends", where, most)
                self.wrong(told, 1, "parted", where, most)
        # Of the left SIDE a PARTNER may not catch, of the right one it may.
        self.wrong(told, 2, "put_partner", "alone", "try", TRY)
        for most in (0, 20000):
            self.assertEqual(len(told.run("alone", "echo", "ask", most)), 2)

    def test_no_name(self):
        told = house()
        for where, known in (("alone", "ask"), ("beside", "try")):
            self.raises(NoName, told, "run", where, "nobody", "noone", 5, name="nobody")
            self.raises(NoName, told, "run", where, "echo", "noone", 5, name="noone")
            self.raises(NoName, told, "run", where, known, known, 5, name=known)
            self.raises(NoName, told, "compare", where, "nobody", "noone", name="nobody")
            self.raises(NoName, told, "compare", where, "echo", known, name=known)
        self.raises(NoName, told, "run", "alone", "echo", "try", 5, name="try")

    def test_exchange(self):
        told = house()
        other = with_modes(TABLE, ("stops", "tabled", "barred", "fresh"))
        self.assertIsNone(told.exchange(other))
        self.assertEqual(told.table(), other)
        flat = with_way(TABLE, "f", "out", ("bit", "bit", ("o", "o")))
        told.exchange(flat)
        self.assertEqual(told.table(), flat)
        for table in (((("g",) + TABLE[0][0][1:],),) + TABLE[1:], (TABLE[0] + (("g", WAY, WAY),),) + TABLE[1:],
                      (TABLE[0], (("g", WAY, WAY),)) + TABLE[2:], ((("f", ("truth", "bit", ("i", "o")), WAY),),) + TABLE[1:],
                      ((("f", WAY, ("bit", "truth", ("no", "yes"))),),) + TABLE[1:], ((("f", WAY, ("thing",)),),) + TABLE[1:],
                      ((("f", ("thing",), WAY),),) + TABLE[1:], ((("f", ("bit", "truth", ("no", "yes")), WAY),),) + TABLE[1:]):
            self.wrong(told, 0, "exchange", table)

    def test_undo(self):
        told = House(LEFT, RIGHT, TABLE)
        self.raises(Nothing, told, "undo")
        states = [self.state(told)]
        other = with_modes(TABLE, ("stops", "live", "let", "kept"))
        for name, *given in (("put_part", "a", ECHO), ("put_part", "a", FLAT), ("put_part", "b", FLAT), ("put_partner", "alone", "a", ASK),
                             ("put_partner", "beside", "a", TRY), ("drop_part", "a"), ("exchange", other), ("drop_partner", "alone", "a"),
                             ("put_partner", "alone", "a", ASK), ("put_partner", "beside", "a", ASK), ("exchange", other), ("put_part", "b", FLAT),
                             ("drop_partner", "beside", "a")):
            self.assertIsNone(getattr(told, name)(*given))
            states.append(self.state(told))
        # What raises, and what only tells, is not taken back.
        for call in (("drop_part", "a"), ("run", "alone", "a", "a", 3), ("put_part", "A", ECHO), ("exchange", None)):
            with self.assertRaises(MixedError):
                getattr(told, call[0])(*call[1:])
        twin = told.twin()
        for where in (told, twin):
            for state in states[-2::-1]:
                where.ends("alone", 5)
                self.assertIsNone(where.undo())
                self.assertEqual(self.state(where), state)
            self.raises(Nothing, where, "undo")
        # Behind an undo it goes on from there.
        told.put_part("z", ECHO)
        told.undo()
        self.assertEqual(told.parts(), {})
        self.raises(Nothing, told, "undo")

    def test_what_is_told_is_new(self):
        told = house()
        before = self.state(told)
        for make_it in (told.parts, lambda: told.partners("alone"), lambda: told.partners("beside"), lambda: told.ends("alone", 10)):
            one, other = make_it(), make_it()
            self.assertEqual(one, other)
            self.assertIsNot(one, other)
            one.clear()
            other["zz"] = None
        self.assertEqual(self.state(told), before)

    def test_twin_and_equality(self):
        told = house()
        twin = told.twin()
        self.assertIsNot(told, twin)
        self.assertTrue(told == twin and twin == told)
        twin.put_part("more", ECHO)
        self.assertFalse(told == twin)
        self.assertNotIn("more", told.parts())
        twin.undo()
        self.assertTrue(told == twin)
        told.drop_part("echo")
        told.put_partner("alone", "more", ASK)
        self.assertEqual([list(twin.parts()), list(twin.partners("alone"))], [["echo", "fails", "flat", "mute"], ["ask"]])
        told.exchange(with_modes(TABLE, ("stops", "live", "let", "kept")))
        self.assertEqual(twin.table(), TABLE)
        for thing in ANY + (told.twin().parts(), twin.sides(), object()):
            self.assertFalse(twin == thing)
            self.assertTrue(twin != thing)
        # The order in which programs were put counts for nothing, nor what can be taken back.
        one, other = House(LEFT, RIGHT, TABLE), House(LEFT, RIGHT, TABLE)
        rows = [("put_part", "a", ECHO), ("put_part", "b", FLAT), ("put_partner", "alone", "a", ASK), ("put_partner", "beside", "b", TRY)]
        for row, back in zip(rows, rows[::-1]):
            getattr(one, row[0])(*row[1:])
            getattr(other, back[0])(*back[1:])
        self.assertTrue(one == other)
        other.put_part("c", ECHO)
        other.drop_part("c")
        self.assertTrue(one == other)
        for name, *given in (("put_part", "a", FLAT), ("drop_part", "b"), ("drop_partner", "alone", "a"), ("drop_partner", "beside", "b"),
                             ("put_partner", "beside", "a", ASK), ("exchange", with_modes(TABLE, ("stops", "live", "let", "kept")))):
            getattr(other, name)(*given)
            self.assertFalse(one == other)
            other.undo()
            self.assertTrue(one == other)
        self.assertFalse(House(LEFT, RIGHT, TABLE) == House(RIGHT, RIGHT, TABLE))
        self.assertFalse(House(LEFT, RIGHT, TABLE) == House(LEFT, LEFT, TABLE))

    def test_runs(self):
        told = house()
        self.assertEqual(told.run("alone", "flat", "ask", 50), run_alone(LEFT, TABLE, FLAT, ASK, 50))
        self.assertEqual(told.run("beside", "fails", "try", 50), run_beside(LEFT, RIGHT, TABLE, FAILS, TRY, 50))
        self.assertEqual(list(told.ends("alone", 50).items()), [(("echo", "ask"), "no"), (("fails", "ask"), "fails"), (("flat", "ask"), "yes"),
                                                                (("mute", "ask"), "ever")])
        self.assertEqual(told.parted("alone", 50), (("echo", "flat"), ("fails", "flat"), ("flat", "mute")))
        self.assertEqual(told.parted("beside", 50), (("echo", "fails"), ("fails", "flat"), ("fails", "mute")))
        # Within so many STEPS: the one says yes, and the other one is not on.
        self.assertEqual([told.parted("alone", most) for most in (0, 2, 3)], [(), (), ()])
        self.assertEqual(told.parted("alone", 4), told.parted("alone", 50))
        empty = House(LEFT, RIGHT, TABLE)
        self.assertEqual([empty.ends("alone", 5), empty.parted("beside", 5)], [{}, ()])

    def test_inner_words_of_the_table_that_is_there(self):
        words = (("word", ("bad", "off")),)
        left = (BITS[:2] + words, TESTS + (("what", ("word",), "truth", ("no", "yes")),), ("again", "catch"))
        table = ((("f", WAY, WAY),), (("ask", WAY, WAY),), (("bad", "off"), ("bad", "off"), "bad", "bad", "bad"), TABLE[3])
        told = House(left, left, table)
        told.put_part("a", read_part(left, faces(table), "body f\nvar w word\nvar x bit\ntry\ncall x ask bit.i\ncatch w\nif !what w\nanswer bit.i\n"
                                     "else\nanswer bit.o\nend\nend\nanswer x\nend"))
        caller = read_partner(left, faces(table), "main\nvar x bit\ncall x f bit.i\nif !on x\nsay yes\nelse\nsay no\nend\nend\n"
                              "body ask\nvar y bit\ncall y f bit.i\nanswer y\nend")
        for where in ("alone", "beside"):
            told.put_partner(where, "b", caller)
            self.assertEqual(told.run(where, "a", "b", 50)[0], "no")
        told.exchange(table[:2] + (table[2][:4] + ("off",), table[3]))
        self.assertEqual([told.ends(where, 50) for where in ("alone", "beside")], [{("a", "b"): "yes"}] * 2)
        told.undo()
        self.assertEqual(told.run("alone", "a", "b", 50)[0], "no")

    def test_faults_and_compare(self):
        told = house()
        self.assertEqual(told.faults(), (tight_faults(LEFT, RIGHT, TABLE), faithful_faults(LEFT, RIGHT, TABLE)))
        for where, one, other in itertools.product(("alone", "beside"), told.parts(), told.parts()):
            want = compared(LEFT, RIGHT, TABLE, where, told.parts()[one], told.parts()[other])
            self.assertEqual(told.compare(where, one, other), want)
        closed = with_way(TABLE, "f", "into", ("bit", "bit", ("", "")))
        told.exchange(closed)
        self.assertIsNone(told.faults())
        self.raises(Nothing, told, "compare", "alone", "echo", "flat")
        self.raises(NoName, told, "compare", "alone", "echo", "no", name="no")
        told.undo()
        blind = House(LEFT, (BITS, (), ()), TABLE)
        blind.put_part("a", ECHO)
        self.assertFalse(is_level(LEFT, (BITS, (), ()), TABLE))
        self.assertIsNone(blind.faults())
        self.raises(Nothing, blind, "compare", "beside", "a", "a")
        things = ((("f", ("thing",), WAY), ("g", WAY, ("thing",))),) + TABLE[1:]
        given = House(LEFT, RIGHT, things)
        given.put_part("a", read_part(LEFT, faces(things), "body f\nanswer bit.i\nend\nbody g\nend"))
        self.assertEqual(given.faults(), (tight_faults(LEFT, RIGHT, things), faithful_faults(LEFT, RIGHT, things)))
        self.raises(Nothing, given, "compare", "alone", "a", "a")
        self.raises(NoName, given, "compare", "alone", "b", "c", name="b")

    def test_compare_raises_what_compared_does(self):
        told = House(with_powers(LEFT, ("keep", "same")), RIGHT, TABLE)
        same = read_part(with_powers(LEFT, ("same",)), FACES, "body f\nvar t thing\nmake t bit.i\nif = t t\nanswer given\nelse\nend\nend")
        endless = part("while truth.yes", "end")
        told.put_part("same", same)
        told.put_part("echo", ECHO)
        self.raises(Nothing, told, "compare", "alone", "same", "echo")
        making = read_part(LEFT, FACES, "body f\nvar t thing\nwhile truth.yes\nmake t bit.i\nend\nend")
        told.put_part("making", making)
        self.raises(TooMany, told, "compare", "alone", "echo", "making", most=200000)
        told.put_part("endless", endless)
        self.assertEqual(told.compare("alone", "making", "endless")[0], "alike")

    def test_many(self):
        for seed in range(40):
            source = random.Random(seed)
            left, right, table = scenes.tables(seed)
            told = House(left, right, table)
            parts = {}
            for at in range(3):
                one, _ = scenes.parts(seed * 3 + at, left, table)
                parts["abc"[at]] = one
                told.put_part("abc"[at], one)
            callers = {}
            for where, side, own in (("alone", left, faces(table)), ("beside", right, right_faces(table))):
                for name in "xy":
                    callers[where, name] = scenes.partner(source.randint(0, 10 ** 6), side, own)
                    told.put_partner(where, name, callers[where, name])
            for where in ("alone", "beside"):
                ends = told.ends(where, 200)
                self.assertEqual(list(ends), [(one, other) for one in "abc" for other in "xy"])
                for (one, other), end in ends.items():
                    self.assertEqual(told.run(where, one, other, 200)[0], end)
                want = [(one, other) for one, other in itertools.combinations("abc", 2) if any(
                    parting(left, right, table, where, parts[one], parts[other], callers[where, name], 200) for name in "xy")]
                self.assertEqual(told.parted(where, 200), tuple(want))
            self.assertEqual(told.faults() is None, not (is_passable(table) and is_level(left, right, table)))

    def test_programs_of_any_value(self):
        # Values near a program are programs, or Wrong.
        told = house()
        for at, junk in itertools.product(range(3), JUNK):
            thing = ASK[:at] + (junk,) + ASK[at + 1:]
            if thing not in (ASK, ASK[:2] + ((),)):
                self.wrong(told, 2, "put_partner", "alone", "ask", thing)
        for seed in range(20):
            own = make.part(seed, LEFT, FACES)
            told.put_part("own", own)
            self.assertEqual(told.parts()["own"], own)


if __name__ == "__main__":
    unittest.main()
