"""A desk [40]."""

import itertools
import unittest

from besidealone.back import brought_back
from besidealone.desk import Desk
from besidealone.errors import MixedError, NoCommand, NoName, NotRight, NoText, Nothing, TooMany, Wrong
from besidealone.heaps import wrong_row
from besidealone.house import House
from besidealone.likeness import classes
from besidealone.mends import mode_mends
from besidealone.over import led_over
from besidealone.programtexts import read_part, read_partner, show_partner
from besidealone.sidetexts import read_side, show_side
from besidealone.tables import faces, right_faces
from besidealone.tabletexts import read_table, show_table
from tests.helpers import ANY

LEFT = "kind bit i o\nkind truth no yes\nkind word bad\noperation on bit -> truth : yes no\npowers keep"
RIGHT = "kind num a b c\nkind truth no yes\nkind word bad off\noperation isa num -> truth : yes no no\npowers catch keep"
TABLE = ("export f\ninto num bit i o o\nout bit num a b\nimport ask\nout bit num a c\ninto num bit i o o\nwords out bad\nwords into bad bad\n"
         "words refused bad off bad\nmodes crosses live let kept")
SIDES = read_side(LEFT), read_side(RIGHT)
WHOLE = read_table(*SIDES, TABLE)
ECHO = "body f\nanswer given\nend"
ASKING = "body f\n  var x bit\n  call x ask given\n  answer x\nend"
FLAT = "body f\n  answer bit.i\nend"
FAILS = "body f\n  fail word.bad\nend"
MUTE = "body f\nend"
CALL = "main\n  var x bit\n  call x f bit.o\n  if !on x\n    say yes\n  else\n    say no\n  end\nend\nbody ask\n  answer bit.i\nend"
TRY = "main\n  var w word\n  var x num\n  try\n    call x f num.b\n    say no\n  catch w\n    say yes\n  end\nend\nbody ask\n  answer num.a\nend"
LOOK = "main\n  var x num\n  call x f num.c\n  if !isa x\n    say yes\n  else\n  end\nend\nbody ask\nend"


def desk():
    found = Desk(LEFT, RIGHT, TABLE)
    for command in ("part echo\n" + ECHO, "part asking\n" + ASKING, "part flat\n" + FLAT, "part fails\n" + FAILS, "partner alone call\n" + CALL,
                    "partner beside try\n" + TRY, "partner beside look\n" + LOOK):
        assert found.execute(command) == ["done"]
    return found


class Desks(unittest.TestCase):

    def raises(self, error, told, text, **fields):
        """A command raises an error with these fields, and changes nothing."""
        before = told.house()
        with self.assertRaises(error, msg=text) as caught:
            told.execute(text)
        self.assertIs(type(caught.exception), error, text)
        for field, want in fields.items():
            self.assertEqual(getattr(caught.exception, field), want, text)
        self.assertEqual(told.house(), before)

    def answers(self, told, text, want):
        """A command answers with these lines, and, asked again, with the same."""
        before = told.house()
        found = told.execute(text)
        self.assertEqual(found, want, text)
        self.assertIs(type(found), list)
        if told.house() == before:
            found.append("more")
            self.assertEqual(told.execute(text), want, text)

    def test_made(self):
        self.assertEqual(Desk(LEFT, RIGHT, TABLE).house(), House(*SIDES, WHOLE))
        bad_left, bad_table = LEFT + "\npower", TABLE + "\n\nmodes"
        for given, line in (((bad_left, "", ""), 5), ((LEFT, "kind bit", bad_table), 0), ((LEFT, RIGHT, bad_table), 11), ((LEFT, LEFT, TABLE), 1),
                            ((LEFT, RIGHT, ""), 1), ((LEFT, RIGHT, TABLE.rsplit("\n", 1)[0] + "\n\n"), 11)):
            with self.assertRaises(NoText) as caught:
                Desk(*given)
            self.assertEqual(caught.exception.line, line)
        for thing in [thing for thing in ANY if not isinstance(thing, str)] + [b"a"]:
            for place, given in enumerate(((thing, RIGHT, TABLE), (LEFT, thing, TABLE), (LEFT, RIGHT, thing), (bad_left, "", thing))):
                with self.assertRaises(Wrong) as caught:
                    Desk(*given)
                self.assertEqual(caught.exception.place, min(place, 2))
        with self.assertRaises(Wrong) as caught:
            Desk(bad_left, None, None)
        self.assertEqual(caught.exception.place, 1)

    def test_house_is_a_twin(self):
        told = desk()
        found = told.house()
        found.drop_part("echo")
        self.assertNotEqual(found, told.house())
        self.assertIn("echo", told.house().parts())
        found.undo()
        found.undo()
        self.assertEqual(list(found.partners("beside")), ["try"])

    def test_values_that_are_no_string(self):
        told = desk()
        for thing in [thing for thing in ANY if not isinstance(thing, str)]:
            with self.assertRaises(Wrong) as caught:
                told.execute(thing)
            self.assertEqual(caught.exception.place, 0)
        for text in [text for text in ANY if isinstance(text, str)]:
            self.raises(NoCommand, told, text, line=text)

    def test_what_changes(self):
        told = Desk(LEFT, RIGHT, TABLE)
        own = House(*SIDES, WHOLE)
        rows = (("part echo\n" + ECHO, "put_part", "echo", read_part(SIDES[0], faces(WHOLE), ECHO)),
                ("  part   mute  \n" + MUTE + "\n\n", "put_part", "mute", read_part(SIDES[0], faces(WHOLE), MUTE)),
                ("partner alone call\n" + CALL, "put_partner", "alone", "call", read_partner(SIDES[0], faces(WHOLE), CALL)),
                ("partner beside  try\n\n" + TRY, "put_partner", "beside", "try", read_partner(SIDES[1], right_faces(WHOLE), TRY)),
                ("part echo\n" + FLAT, "put_part", "echo", read_part(SIDES[0], faces(WHOLE), FLAT)),
                ("drop part mute", "drop_part", "mute"), ("undo", "undo"), (" drop  partner beside try \n \n", "drop_partner", "beside", "try"),
                ("table\n" + TABLE.replace("live", "tabled"), "exchange", read_table(*SIDES, TABLE.replace("live", "tabled"))),
                ("drop partner alone call\n", "drop_partner", "alone", "call"), ("undo\n\n", "undo"), ("undo", "undo"), ("undo", "undo"))
        for text, name, *given in rows:
            self.assertEqual(told.execute(text), ["done"])
            getattr(own, name)(*given)
            self.assertEqual(told.house(), own)
        self.raises(Nothing, Desk(LEFT, RIGHT, TABLE), "undo")

    def test_bad_texts(self):
        told = desk()
        for text, line in (("part odd\nbody f\nanswer bit.u\nend", 1), ("part odd\n\nbody g\nend", 1), ("part odd", 1), ("part odd\n", 1),
                           ("part odd\nbody f", 1), ("part odd\nbody f\n", 2), ("partner alone odd\nmain\nend", 2), ("partner alone odd\n" + TRY, 2),
                           ("partner beside odd\n" + CALL, 1), ("partner beside odd", 1), ("table", 1), ("table\n\n", 2), ("table\nexport f\ninto", 1),
                           ("table\n" + TABLE + "\n" + TABLE, 10), ("  table \n" + TABLE.replace("out bit num a b", "out bit num a -"), 2)):
            self.raises(NoText, told, text, line=line)

    def test_other_tables(self):
        told = desk()
        for text in (TABLE.replace("export f", "export g"), TABLE.replace("ask", "beg"), TABLE.replace("into num bit i o o\nout bit num a b",
                     "into truth bit i o\nout bit num a b"), TABLE.replace("out bit num a b", "out bit truth no yes"),
                     TABLE.replace("import ask\nout bit num a c\ninto num bit i o o\n", "")):
            self.assertNotEqual(text, TABLE)
            self.raises(NoCommand, told, "table\n" + text, line="table\n" + text)

    def test_show(self):
        told = desk()
        for text, want in (("show side left", LEFT), ("show side right", RIGHT), ("show table", TABLE), (" show  part asking ", ASKING),
                           ("show part flat", FLAT), ("show partner alone call", CALL), ("show partner beside try\n", TRY),
                           ("show partner beside look", LOOK), ("show part echo", "body f\n  answer given\nend")):
            self.answers(told, text, want.split("\n"))
        self.assertEqual([show_side(SIDES[0]), show_side(SIDES[1]), show_table(*SIDES, WHOLE)], [LEFT, RIGHT, TABLE])
        for text, name in (("show part call", "call"), ("show part thing", "thing"), ("show partner alone try", "try"),
                           ("show partner beside call", "call")):
            self.raises(NoName, told, text, name=name)
        self.answers(told, "names", ["part asking", "part echo", "part fails", "part flat", "alone call", "beside look", "beside try"])
        self.answers(Desk(LEFT, RIGHT, TABLE), "names", [])

    def test_runs(self):
        told = desk()
        own = told.house()
        for where, name in (("alone", "call"), ("beside", "look"), ("beside", "try")):
            for one, most in itertools.product(("echo", "flat", "fails", "asking"), (0, 2, 3, 20000)):
                end, log = own.run(where, one, name, most)[:2]
                self.answers(told, f"run {where} {one} {name} {most}", [end])
                lines = [" ".join([{True: "inner", False: "outer"}[item] if isinstance(item, bool) else str(item) for item in row]) for row in log]
                self.answers(told, f"log {where}  {one} {name} {most}", lines)
        self.answers(told, "log alone asking call 50", ["call f o outer", "ask ask o", "reply i", "answer i"])
        self.answers(told, "parted beside 50", ["asking fails", "asking flat", "echo fails", "echo flat", "fails flat"])
        self.assertEqual(own.parted("beside", 50), tuple([tuple(line.split()) for line in told.execute("parted beside 50")]))
        self.answers(told, "parted alone 3", [])
        for text, name in (("run alone no call 5", "no"), ("run alone echo no 5", "no"), ("run beside no none 5", "no"), ("log beside echo call 5", "call")):
            self.raises(NoName, told, text, name=name)

    def test_logs_of_things_and_inner_calls(self):
        side = "kind bit i o\nkind truth no yes\nkind word bad\npowers again catch keep same"
        table = ("export give\ninto thing\nout thing\nexport make\ninto bit bit i o\nout thing\nexport take\ninto thing\nout bit bit i o\nimport ask\n"
                 "out bit bit i o\ninto bit bit i o\nwords out bad\nwords into bad\nwords refused bad bad bad\nmodes crosses live let kept")
        told = Desk(side, side, table)
        told.execute("part p\nbody give\nanswer given\nend\nbody make\nvar t thing\nmake t given\nanswer t\nend\nbody take\nvar x bit\nvar w word\ntry\n"
                     "call x ask bit.i\ncatch w\nend\nfail word.bad\nend")
        told.execute("partner alone q\ncell c thing\nmain\nvar t thing\nvar w word\nvar x bit\ncall t make bit.o\nput c t\ntry\ncall x take t\ncatch w\n"
                     "say no\nend\nend\nbody ask\nvar t thing\ncall t give @c\nfail word.bad\nend")
        self.answers(told, "log alone p q 50", ["call make o outer", "gave 0 0", "call take 0 outer", "ask ask i", "call give 0 inner", "gave 1 0",
                                               "failed bad", "fails bad"])
        self.answers(told, "run alone p q 50", ["no"])

    def test_faults_and_mends(self):
        told = desk()
        own = told.house()
        tight, faithful = own.faults()
        self.answers(told, "faults", [" ".join(fault) for fault in tight + faithful] or ["none"])
        self.assertEqual(told.execute("faults"), ["T2"])
        names = ("failing", "imports", "again", "handles")
        for wish in ("tight", "faithful", "both"):
            want = [" ".join([names[at] for at in lot]) or "nothing" for lot in mode_mends(*SIDES, own.table(), wish)] or ["never"]
            self.answers(told, "mend " + wish, want)
        self.answers(told, "mend tight", ["failing"])
        self.answers(told, "mend faithful", ["nothing"])
        told.execute("table\n" + TABLE.replace("out bit num a b", "out bit num a a"))
        self.answers(told, "faults", ["T2", "F1 f"])
        self.answers(told, "mend faithful", ["never"])
        plain = Desk(LEFT, RIGHT.replace("powers catch keep", "powers keep"), TABLE)
        self.answers(plain, "faults", ["none"])
        self.answers(plain, "mend both", ["nothing"])

    def test_unasked(self):
        told = desk()
        told.execute("table\n" + TABLE.replace("into num bit i o o\nout bit num a b", "into num bit i i o\nout bit num a b"))
        for text in ("faults", "mend tight", "mend both", "back echo flat try 50", "back no none nobody 5", "over echo flat call 50", "over a b c 0"):
            self.answers(told, text, ["unasked"])
        self.raises(Nothing, told, "compare alone echo flat")
        self.raises(NoName, told, "compare alone no none", name="no")
        for text in ("mend well", "back echo flat try", "over echo flat call 20001"):
            self.raises(NoCommand, told, text, line=text)

    def test_compare(self):
        told = desk()
        own = told.house()
        for where, one, other in itertools.product(("alone", "beside"), ("echo", "flat", "fails", "asking"), ("echo", "flat", "fails", "asking")):
            word, found = own.compare(where, one, other)
            side, rows = (SIDES[0], faces(WHOLE)) if where == "alone" else (SIDES[1], right_faces(WHOLE))
            want = ["alike"] if word == "alike" else ["parted"] + show_partner(side, rows, found).split("\n")
            self.answers(told, f"compare {where} {one} {other}", want)
        self.raises(NoName, told, "compare beside echo no", name="no")
        told.execute("part making\nbody f\nvar t thing\nwhile truth.yes\nmake t bit.i\nend\nend")
        self.raises(TooMany, told, "compare alone echo making", most=200000)

    def test_classes(self):
        told = desk()
        for side, own in zip(("left", "right"), SIDES):
            for kind, _ in own[0]:
                self.answers(told, f"classes {side} {kind}", [" ".join(lot) for lot in classes(own, kind)])
        self.answers(told, "classes right num", ["a", "b c"])
        for text, kind in (("classes left num", "num"), ("classes right bit", "bit"), ("classes left thing", "thing")):
            self.raises(NoName, told, text, name=kind)

    def test_back_and_over(self):
        told = desk()
        told.execute("partner alone asked\nmain\nvar x bit\ncall x f bit.o\nif !on x\nelse\nsay yes\nend\nend\nbody ask\nanswer bit.i\nend")
        for name in ("echo", "flat"):
            other = {"echo": "flat", "flat": "echo"}[name]
            self.raises(NotRight, told, f"back {name} {other} look 50", faults=(("T2",),))
        parts, left, right = told.house().parts(), told.house().partners("alone"), told.house().partners("beside")
        found = led_over(*SIDES, WHOLE, parts["echo"], parts["flat"], left["call"], 50)
        self.answers(told, "over echo flat call 50", show_partner(SIDES[1], right_faces(WHOLE), found).split("\n"))
        told.execute("table\n" + TABLE.replace("crosses", "stops"))
        table = told.house().table()
        found = brought_back(*SIDES, table, parts["flat"], parts["echo"], right["look"], 50)
        self.answers(told, "back flat echo look 50", show_partner(SIDES[0], faces(table), found).split("\n"))
        self.raises(Nothing, told, "back flat echo look 3")
        self.raises(Nothing, told, "over flat flat call 50")
        for text, name in (("back no none nobody 50", "no"), ("back echo none nobody 50", "none"), ("back echo flat nobody 50", "nobody"),
                           ("back echo flat call 50", "call"), ("over echo flat try 50", "try"), ("over none no call 5", "none")):
            self.raises(NoName, told, text, name=name)
        self.raises(NotRight, self.unfaithful(), "over echo flat call 50", faults=(("F1", "f"),))

    def unfaithful(self):
        told = desk()
        told.execute("table\n" + TABLE.replace("out bit num a b", "out bit num a a"))
        return told

    def test_safe(self):
        told = desk()
        for text, given in (("kept 1 0 1 1 own live ahead index", ("kept", 1, 0, 1, 1, "own", "live", "ahead", "index")),
                            ("fresh 9 9 9 1 never any behind address", ("fresh", 9, 9, 9, 1, "never", "any", "behind", "address"))):
            self.answers(told, "safe " + text, ["safe"])
            self.assertIsNone(wrong_row(given))
        for text in ("kept 0 0 1 1 own live ahead index", "kept 1 0 1 1 own live ahead address", "kept 1 0 1 1 never any ahead index",
                     "fresh 2 0 2 0 always any behind address", "kept 3 0 2 1 own any ahead index", "kept 1 1 1 1 own live behind index"):
            words = text.split()
            row = wrong_row((words[0], *map(int, words[1:5]), *words[5:]))
            want = [" ".join([event[0]] + [str(number) for item in event[1:] for number in (item if isinstance(item, tuple) else (item,))])
                    for event in row]
            self.answers(told, " safe  " + text, want)
        self.assertEqual(told.execute("safe kept 1 0 1 1 own live ahead address"), ["out 0", "move 1", "out 0"])
        for text in ("kept 10 0 1 1 own live ahead index", "kept 01 0 1 1 own live ahead index", "kept -1 0 1 1 own live ahead index",
                     "kept 1 0 1 1 own live ahead", "kept 1 0 1 1 own live ahead index index", "old 1 0 1 1 own live ahead index",
                     "kept 1 0 1 1 live own ahead index", "kept a 0 1 1 own live ahead index", "kept 1 0 1 1 own live ahead indexes"):
            self.raises(NoCommand, told, "safe " + text, line="safe " + text)

    COMMANDS = ("part echo", "partner alone call", "drop part echo", "drop partner alone call", "table", "undo", "show side left", "show table",
                "show part echo", "show partner alone call", "names", "run alone echo call 5", "log alone echo call 5", "parted alone 5", "faults",
                "compare alone echo flat", "classes left bit", "mend tight", "back echo flat look 5", "over echo flat call 5",
                "safe kept 1 0 1 1 own live ahead index")

    def is_form(self, words):
        """Whether words have the form of a command, told once more."""
        head, *rest = words or [""]
        name = lambda word: 1 <= len(word) <= 12 and all("a" <= letter <= "z" for letter in word)
        where = lambda word: word in ("alone", "beside")
        number = lambda word: word.isdigit() and str(int(word)) == word and int(word) <= 20000
        forms = {"part": [(name,)], "partner": [(where, name)], "table": [()], "undo": [()], "names": [()], "faults": [()],
                 "drop": [(lambda word: word == "part", name), (lambda word: word == "partner", where, name)],
                 "show": [(lambda word: word == "side", lambda word: word in ("left", "right")), (lambda word: word == "table",),
                          (lambda word: word == "part", name), (lambda word: word == "partner", where, name)],
                 "run": [(where, name, name, number)], "log": [(where, name, name, number)], "parted": [(where, number)],
                 "compare": [(where, name, name)], "classes": [(lambda word: word in ("left", "right"), name)],
                 "mend": [(lambda word: word in ("tight", "faithful", "both"),)], "back": [(name, name, name, number)],
                 "over": [(name, name, name, number)]}
        return any(len(form) == len(rest) and all(slot(word) for slot, word in zip(form, rest)) for form in forms.get(head, ()))

    def test_forms(self):
        told = desk()
        junk = ("", "x", "Echo", "0", "05", "20001", "-1", "+5", "alone", "beside", "left", "tight", "part", "thirteenletters", "a.b", "5.0", "1e1")
        tried = 0
        for command in self.COMMANDS:
            words = command.split()
            near = [words[:at] + words[at + 1:] for at in range(len(words))] + [words[:at] + [word] + words[at:] for at in range(len(words) + 1)
                                                                                 for word in junk]
            near += [words[:at] + [word] + words[at + 1:] for at in range(len(words)) for word in junk]
            near += [words[::-1], [command.upper()], words * 2, [command.replace(" ", "")], [command.replace(" ", "\t")]]
            for found in near:
                text = " ".join(found)
                found = text.split(" ")
                found = [word for word in found if word]
                if found[:1] == ["safe"] or self.is_form(found):
                    continue
                tried += 1
                self.raises(NoCommand, told, text, line=text)
        self.assertGreater(tried, 2000)

    def test_lines_behind(self):
        told = desk()
        for command in self.COMMANDS:
            if command.split()[0] in ("part", "partner", "table"):
                continue
            for text in (command + "\nend", command + "\n\n x", "\n" + command, command + "\n" + command):
                self.raises(NoCommand, told, text, line=text)
            one, other = desk(), desk()
            try:
                want = one.execute(command)
            except MixedError as error:
                with self.assertRaises(type(error)):
                    other.execute("  " + command.replace(" ", "   ") + "  \n  \n\n")
                continue
            self.assertEqual(other.execute("  " + command.replace(" ", "   ") + "  \n  \n\n"), want)

    def test_numbers(self):
        told = desk()
        for word in ("0", "1", "9", "10", "19999", "20000"):
            self.assertEqual(len(told.execute("run alone echo call " + word)), 1)
        for word in ("00", "01", "20001", "99999", "100000", "9" * 400, "-0", "+1", "1.", "1_0", "x", "\u0663"):
            for text in ("run alone echo call ", "log alone echo call ", "parted alone ", "back echo flat look ", "over echo flat call "):
                self.raises(NoCommand, told, text + word, line=text + word)


if __name__ == "__main__":
    unittest.main()
