"""Papers of likeness [26]."""

import bisect
import collections
import itertools
import unittest

from besidealone.alone import run_alone
from besidealone.beside import run_beside
from besidealone.errors import Nothing, TooMany
from besidealone.programs import is_part
from besidealone.programtexts import read_part, read_partner
from besidealone.relations import is_paper, paper
from besidealone.tables import faces, right_faces, with_modes
from tests import make
from tests.helpers import ANY, asked, changed

BIT = ("bit", ("i", "o"))
KINDS = (BIT, ("truth", ("no", "yes")), ("word", ("bad", "deep", "off")))
TELLS = (("isbad", ("word",), "truth", ("yes", "no", "no")), ("isdeep", ("word",), "truth", ("no", "yes", "no")),
         ("on", ("bit",), "truth", ("yes", "no")))
BLIND = (KINDS, (), ())
SIDE = (KINDS, TELLS, ())
WAY = ("bit", "bit", ("i", "o"))
SAME = (("bad", "deep", "off"), ("bad", "deep", "off"), "bad", "bad", "deep")
MODES = ("crosses", "live", "let", "kept")
TABLE = ((("f", WAY, WAY),), (("ask", WAY, WAY),), SAME, MODES)
ALL = (("again", "catch", "keep", "same"))
TRIVIAL = ((((), ()),), ())


def having(side, *powers):
    return side[:2] + (powers,)


def modes(table, **told):
    at = ("failing", "imports", "again", "handles")
    return with_modes(table, tuple([told.get(name, own) for name, own in zip(at, table[3])]))


class Papers(unittest.TestCase):
    """Bodies are told as lists of lines; those of f alone, or of all exports in order."""

    def part(self, table, *bodies, cells=()):
        rows = list(cells)
        for (name, _, _), body in zip(faces(table)[0], bodies):
            rows += ["body " + name] + body + ["end"]
        return read_part(having(SIDE, *ALL), faces(table), "\n".join(rows))

    def paper(self, want, one, other, left=SIDE, right=SIDE, table=TABLE, where="alone"):
        """The PAPER is this one, or, of a truth, there is one just if it is True."""
        found = asked(self, paper, left, right, table, where, one, other)
        turned = asked(self, paper, left, right, table, where, other, one)
        self.assertEqual(found is None, turned is None)
        if isinstance(want, bool):
            self.assertEqual(found is not None, want)
        else:
            self.assertEqual(found, want)
        if found is not None:
            self.assertIs(asked(self, is_paper, left, right, table, where, one, other, found), True)
            for at, lot in enumerate(found):
                for place in range(len(lot)):
                    less = lot[:place] + lot[place + 1:]
                    less = (less, found[1]) if at == 0 else (found[0], less)
                    self.assertIs(is_paper(left, right, table, where, one, other, less), False)
            back = tuple([tuple(sorted([couple[::-1] for couple in lot])) for lot in found])
            self.assertEqual(turned, back)
        return found

    def bodies(self, want, one, other, **told):
        table = told.get("table", TABLE)
        return self.paper(want, self.part(table, one), self.part(table, other), **told)

    def test_answers(self):
        self.bodies(TRIVIAL, ["answer given"], ["answer given"])
        self.bodies(None, ["answer given"], ["answer bit.i"])
        self.bodies(None, ["answer given"], [])
        self.bodies(None, ["answer bit.i"], ["answer bit.o"])
        self.bodies(TRIVIAL, ["answer bit.i"], ["answer bit.o"], left=BLIND, right=BLIND)
        self.bodies(None, ["answer bit.i"], ["answer bit.o"], left=BLIND, right=SIDE, where="beside")
        self.bodies(TRIVIAL, ["answer bit.i"], ["answer bit.o"], left=SIDE, right=BLIND, where="beside")
        self.bodies(TRIVIAL, ["while truth.yes", "end"], [])
        self.bodies(TRIVIAL, ["var t thing", "let t t"], [])

    def test_raws_that_come_beside(self):
        narrow = ((("f", ("bit", "bit", ("i", "i")), WAY),),) + TABLE[1:]
        self.bodies(TRIVIAL, ["answer given"], ["answer bit.i"], table=narrow, where="beside")
        self.bodies(None, ["answer given"], ["answer bit.i"], table=narrow)
        refusing = ((("f", ("bit", "bit", ("", "o")), WAY),),) + TABLE[1:]
        self.bodies(TRIVIAL, ["answer given"], ["answer bit.o"], table=refusing, where="beside")
        # The right SIDE can't tell i from o: then the one PART may get i and the other one o.
        self.bodies(TRIVIAL, ["answer given"], ["answer given"], left=BLIND, right=BLIND, where="beside")
        self.bodies(None, ["answer given"], ["answer given"], left=BLIND, right=having(BLIND), where="beside",
                    table=((("f", WAY, ("bit", "truth", ("no", "yes"))),),) + TABLE[1:])
        self.bodies(TRIVIAL, ["answer bit.i"], ["answer bit.i"], left=BLIND, right=BLIND, where="beside",
                    table=((("f", WAY, ("bit", "truth", ("no", "yes"))),),) + TABLE[1:])

    def test_fails(self):
        catch = having(SIDE, "catch")
        for left, right, where, told, fails, words in (
                (SIDE, catch, "alone", TABLE, False, False), (catch, SIDE, "alone", TABLE, True, True),
                (SIDE, catch, "beside", TABLE, True, True), (catch, SIDE, "beside", TABLE, False, False),
                (catch, catch, "beside", modes(TABLE, failing="stops"), False, False),
                (catch, SIDE, "alone", modes(TABLE, failing="stops"), True, True),
                (having(BLIND, "catch"), SIDE, "alone", TABLE, True, False),
                (SIDE, having(BLIND, "catch"), "beside", TABLE, True, False)):
            self.bodies(not fails, ["fail word.bad"], [], left=left, right=right, table=told, where=where)
            self.bodies(not words, ["fail word.bad"], ["fail word.off"], left=left, right=right, table=told, where=where)
            self.bodies(False, ["fail word.bad"], ["answer given"], left=left, right=right, table=told, where=where)
        one = TABLE[:2] + ((("bad", "bad", "bad"),) + SAME[1:], MODES)
        self.bodies(True, ["fail word.bad"], ["fail word.off"], left=SIDE, right=catch, table=one, where="beside")

    ONCE = ["var x bit", "call x ask given", "answer x"]
    TWICE = ["var x bit", "call x ask given", "call x ask given", "answer x"]

    def test_once_or_twice(self):
        keep = having(SIDE, "keep")
        for left, right, where, told, want in (
                (SIDE, keep, "alone", TABLE, TRIVIAL), (keep, SIDE, "alone", TABLE, None), (SIDE, keep, "beside", TABLE, None),
                (keep, SIDE, "beside", TABLE, TRIVIAL), (keep, keep, "beside", modes(TABLE, imports="tabled"), TRIVIAL),
                (keep, SIDE, "alone", modes(TABLE, imports="tabled"), None)):
            self.bodies(want, self.ONCE, self.TWICE, left=left, right=right, table=told, where=where)
        cell = ["cell c truth no"]
        one, other = self.part(TABLE, self.ONCE, cells=cell), self.part(TABLE, self.TWICE)
        self.paper(None, one, other)
        self.paper((((("no",), ()),), ()), one, self.part(TABLE, self.ONCE))

    def test_asking_or_not(self):
        tried = ["var w word", "var x bit", "try", "call x ask given", "catch w", "end", "answer given"]
        for told, where, want in ((TABLE, "alone", None), (TABLE, "beside", None), (modes(TABLE, imports="tabled"), "beside", TRIVIAL),
                                  (modes(TABLE, imports="tabled"), "alone", None),
                                  (modes(TABLE, imports="tabled", failing="stops"), "beside", None)):
            self.bodies(want, tried, ["answer given"], left=having(SIDE, "catch"), table=told, where=where)

    def test_arguments_of_imports(self):
        asking = [["var x bit", "call x ask bit." + raw, "answer bit.i"] for raw in "io"]
        for powers in ((), ("keep",)):
            self.bodies(None, *asking, left=having(SIDE, *powers))
            self.bodies(TRIVIAL, *asking, left=having(BLIND, *powers))
            self.bodies(TRIVIAL, *asking, left=SIDE, right=having(BLIND, *powers), where="beside")
            self.bodies(None, *asking, left=BLIND, right=having(SIDE, *powers), where="beside")

    def test_replies(self):
        always = ["var x bit", "call x ask given", "answer bit.i"]
        echo = ["var x bit", "call x ask given", "answer x"]
        never = ["var x bit", "call x ask given", "if !on x", "answer x", "else", "end"]
        for powers in ((), ("keep",)):
            self.bodies(None, always, echo, left=having(SIDE, *powers))
            narrow = TABLE[:1] + ((("ask", WAY, ("bit", "bit", ("i", "i"))),),) + TABLE[2:]
            self.bodies(TRIVIAL, always, echo, right=having(SIDE, *powers), table=narrow, where="beside")
            self.bodies(TRIVIAL, never, echo, right=having(SIDE, *powers), table=narrow, where="beside")
            refusing = TABLE[:1] + ((("ask", WAY, ("bit", "bit", ("i", ""))),),) + TABLE[2:]
            self.bodies(TRIVIAL, never, echo, right=having(SIDE, *powers), table=refusing, where="beside")
            self.bodies(None, never, echo, left=having(SIDE, *powers), table=refusing)

    def test_words_that_come(self):
        def catching(word, more):
            return ["var w word", "var x bit", "try", "call x ask given", "catch w", "if !is" + word + " w"] + more + [
                "else", "end", "end"]

        for powers in (("catch",), ("catch", "keep")):
            left = having(SIDE, *powers)
            for word in ("bad", "deep"):
                pair = [catching(word, ["answer bit.i"]), catching(word, ["answer bit.o"])]
                self.bodies(None, *pair, left=left)
                for into, refuses, refused, comes in ((("bad",) * 3, True, "off", "bad"), (("deep",) * 3, False, "bad", "deep"),
                                                     (("off",) * 3, True, "bad", "bad"), (("off",) * 3, False, "bad", "")):
                    table = TABLE[:1] + ((("ask", WAY, ("bit", "bit", ("i", "" if refuses else "o"))),),
                                         (SAME[0], into, refused, "bad", "off"), MODES)
                    self.bodies(comes != word, *pair, left=left, right=left, table=table, where="beside")
                    stops = modes(table, failing="stops")
                    self.bodies(not (refuses and refused == word), *pair, left=left, right=left, table=stops, where="beside")

    def test_inner_calls(self):
        cells = ["cell c truth no", "cell d truth no"]
        body = ["var x bit", "if @c", "put d truth.yes", "answer given", "else", "end", "put c truth.yes", "call x ask given",
                "if @d"]
        one = self.part(TABLE, body + ["answer x", "else", "end", "put c truth.no", "answer x"], cells=cells)
        other = self.part(TABLE, body + ["else", "end", "put c truth.no", "answer x"], cells=cells)
        for left, right, where, told, want in (
                (having(SIDE, "again", "keep"), SIDE, "alone", TABLE, False), (having(SIDE, "keep"), SIDE, "alone", TABLE, True),
                (having(SIDE, "keep"), having(SIDE, "again"), "beside", TABLE, False),
                (having(SIDE, "again", "keep"), SIDE, "beside", TABLE, True),
                (having(SIDE, "keep"), having(SIDE, "again"), "beside", modes(TABLE, again="barred"), True),
                (having(SIDE, "keep"), having(SIDE, "again"), "beside", modes(TABLE, imports="tabled"), True),
                (having(SIDE, "again", "keep"), SIDE, "alone", modes(TABLE, imports="tabled", again="barred"), False)):
            self.paper(want, one, other, left=left, right=right, table=told, where=where)

    def test_an_inner_fail_that_is_not_seen(self):
        # The inner call FAILS; nobody of the partner catches that: so the import FAILS, and the part catches it.
        def body(word, caught):
            return ["var w word", "var x bit", "try", "call x ask given", "catch w", "if !isdeep w", "fail word." + word, "else", "end",
                    "if !isbad w", "answer bit." + caught, "else", "end", "end"]

        pairs = ((body("bad", "i"), body("bad", "o"), False), (body("bad", "i"), body("off", "i"), False),
                 (body("off", "i"), body("off", "i"), True))
        for one, other, want in pairs:
            self.bodies(want, one, other, left=having(SIDE, "again", "keep"))
            self.bodies(want, one, other, left=having(SIDE, "again"))
        # BESIDE where failing stops it ends all; where there are no inner calls bad comes by itself.
        for one, other, want in pairs:
            into = (("off", "off", "off"),)
            table = TABLE[:2] + (SAME[:1] + into + SAME[2:], MODES)
            stops = modes(table, failing="stops")
            for powers in (("again",), ("again", "keep")):
                self.bodies(True, one, other, right=having(SIDE, *powers), table=stops, where="beside")
                # Out and in again each WORD is off.
                self.bodies(True, one, other, right=having(SIDE, *powers), table=table, where="beside")

    def test_what_ends_apart_but_never_comes_back(self):
        # The one asks, the other doesn't; but from the import there is no way back to main.
        asking = ["var x bit", "call x ask given"]
        stuck = ["var w word", "var x bit", "try", "call x ask given", "catch w", "end"]
        for powers in ((), ("keep",)):
            self.bodies(True, asking, [], left=having(SIDE, *powers))
            self.bodies(True, stuck, [], left=having(SIDE, "catch", *powers))
            self.bodies(False, asking, [], left=having(SIDE, "catch", *powers))
        # In an inner call they differ, but main's call never comes back.
        inner = ["var w word", "var x bit", "try", "call x ask given", "catch w", "if !isdeep w"]
        one, other = inner + ["answer given", "else", "end", "end"], inner + ["else", "end", "end"]
        table = TABLE[:2] + ((SAME[0], ("bad", "bad", "bad")) + SAME[2:], MODES)
        for powers in (("again", "catch"), ("again", "catch", "keep")):
            self.bodies(True, one, other, right=having(SIDE, *powers), table=table, where="beside")
            self.bodies(False, one, other, right=having(SIDE, *powers), where="beside")

    def test_inner_calls_that_tell_an_import_what_to_do(self):
        # Inner calls are answered by the one PART alone; so an import may do anything then with this one.
        def body(inner):
            return ["var w word", "var x bit", "try", "call x ask given", "catch w", "if !isdeep w"] + inner + [
                "else", "fail w", "end", "end", "answer x"]

        left = having(SIDE, "again", "catch")
        self.bodies(False, body(["answer bit.i"]), body(["answer bit.o"]), left=left)
        self.bodies(False, body(["answer bit.i"]), body(["while truth.yes", "end"]), left=left)
        self.bodies(True, body(["answer bit.i"]), body(["answer bit.i"]), left=left)
        right = having(SIDE, "again", "catch")
        self.bodies(False, body(["answer bit.i"]), body(["answer bit.o"]), left=left, right=right, where="beside")
        barred = modes(TABLE, again="barred")
        self.bodies(False, body(["answer bit.i"]), body(["answer bit.o"]), left=left, right=right, table=barred, where="beside")
        into = TABLE[:2] + ((SAME[0], ("bad", "bad", "off")) + SAME[2:], MODES)
        self.bodies(True, body(["answer bit.i"]), body(["answer bit.o"]), left=left, right=right, table=modes(into, again="barred"),
                    where="beside")
        self.bodies(False, body(["answer bit.i"]), body(["answer bit.o"]), left=left, right=right, table=into, where="beside")

    THINGS = ((("make", WAY, ("thing",)), ("show", ("thing",), WAY)), (("ask", WAY, WAY),), SAME, MODES)
    LOOK = ["var x bit", "look x given", "answer x"]

    def things(self, want, one, other, **told):
        table = told.pop("table", self.THINGS)
        self.paper(want, self.part(table, *one), self.part(table, *other), table=table, **told)

    def test_contents(self):
        make_it = ["var t thing", "make t given", "answer t"]
        make_i = ["var t thing", "make t bit.i", "answer t"]
        all_of = ((((), ()),), ((("bit", "i"), ("bit", "i")), (("bit", "o"), ("bit", "o"))))
        for where in ("alone", "beside"):
            for powers in ((), ("keep",), ("again",), ("again", "keep")):
                side = having(SIDE, *powers)
                self.things(all_of, (make_it, self.LOOK), (make_it, self.LOOK), left=side, right=side, where=where)
                self.things(None, (make_it, self.LOOK), (make_i, self.LOOK), left=side, right=side, where=where)
                hidden = ["answer bit.i"]
                self.things(((((), ()),), ((("bit", "i"), ("bit", "i")), (("bit", "o"), ("bit", "i")))), (make_it, hidden), (make_i, hidden),
                            left=side, right=side, where=where)

    def test_contents_beside_come_in_couples(self):
        make_it = ["var t thing", "make t given", "answer t"]
        every = tuple(sorted(itertools.product((("bit", "i"), ("bit", "o")), repeat=2)))
        self.things(((((), ()),), every), (make_it, ["answer bit.i"]), (make_it, ["answer bit.i"]), left=BLIND, right=BLIND, where="beside")

    def test_contents_of_inner_calls(self):
        # Inner calls make other things than those of main.
        made = ["var t thing", "var w word", "var x bit", "try", "call x ask given", "make t truth.no", "catch w", "make t word.off", "end",
                "answer t"]
        tokens = tuple([(row, row) for row in (("truth", "no"), ("word", "off"))])
        for powers in (("again", "catch"), ("again", "catch", "keep")):
            self.things(((((), ()),), tokens), (made, []), (made, []), left=having(SIDE, *powers))
        only_inner = ["var t thing", "var w word", "var x bit", "try", "call x ask given", "catch w", "make t word.off", "answer t", "end"]
        table = (self.THINGS[0], self.THINGS[1], (SAME[0], ("bad",) * 3) + SAME[2:], MODES)
        for powers, want in ((("again", "catch"), tokens[1:]), (("again", "catch", "keep"), tokens[1:])):
            self.things(((((), ()),), want), (only_inner, []), (only_inner, []), left=having(SIDE, *powers))
            self.things(((((), ()),), want), (only_inner, []), (only_inner, []), right=having(SIDE, *powers), table=table, where="beside")

    def test_what_an_inner_call_answers_whether_or_not_an_import_is_asked(self):
        # give answers its own thing; no import is ever asked.
        table = ((("give", ("thing",), ("thing",)), ("make", WAY, ("thing",))),) + TABLE[1:]
        made = ["var t thing", "make t bit.i", "answer t"]
        other = ["var t thing", "make t truth.no", "answer t"]
        self.things(((((), ()),), ((("bit", "i"), ("bit", "i")), (("truth", "no"), ("truth", "no")))), (other, made), (other, made),
                    left=having(SIDE, "again"), table=table)

    def test_things_that_can_be_told_apart(self):
        table = ((("give", ("thing",), ("thing",)), ("make", WAY, ("thing",))), (("ask", WAY, WAY),), SAME, MODES)
        made = ["var t thing", "make t bit.i", "answer t"]
        for where in ("alone", "beside"):
            for powers, told, want in ((("same",), table, False), ((), table, True),
                                       (("same",), modes(table, handles="fresh"), where == "beside")):
                side = having(SIDE, *powers)
                told = {"table": told, "left": side, "right": side, "where": where}
                self.things(want, (["answer given"], made), (["answer given"], made), **told)
                self.things(want, (["answer given"], made), (made, made), **told)
                self.things(True, (made, made), (made, made), **told)
        cells = ["cell c thing", "cell d truth no"]
        again = ["var t thing", "if @d", "answer @c", "else", "make t bit.i", "put c t", "put d truth.yes", "answer @c", "end"]
        table = ((("make", WAY, ("thing",)),), (), SAME, MODES)
        one, other = self.part(table, again, cells=cells), self.part(table, made)
        states = ((((), "no"), ()), ((("bit", "i"), "yes"), ()))
        tokens = ((("bit", "i"), ("bit", "i")),)
        self.paper((states, tokens), one, other, left=having(SIDE, "keep"), table=table)
        self.paper(None, one, other, left=having(SIDE, "keep", "same"), table=table)
        self.paper(None, one, one, left=having(SIDE, "keep", "same"), table=table)
        self.paper((states, tokens), one, other, left=having(SIDE, "keep", "same"), right=SIDE, table=table, where="beside")

    def test_things_of_inner_calls_that_can_be_told_apart(self):
        cells = ["cell c thing", "cell d truth no"]
        begin = ["var t thing", "var x bit", "if @d"]
        own = begin + ["make t bit.o", "put c t", "answer t", "else", "end", "put d truth.yes", "make t given", "put c t", "call x ask given",
                       "put d truth.no", "answer "]
        table = ((("make", WAY, ("thing",)),), (("ask", WAY, WAY),), SAME, MODES)
        for left in (having(SIDE, "again", "keep", "same"), having(SIDE, "keep", "same")):
            inner = "again" in left[2]
            for last, want in (("t", True), ("@c", not inner)):
                part = self.part(table, own[:-1] + [own[-1] + last], cells=cells)
                self.paper(want, part, part, left=left, table=table)
        # What main's call has made, and an inner one answers, came not from the very call.
        given = begin + ["answer @c", "else", "end"] + own[8:-1] + ["make t given", "answer t"]
        part = self.part(table, given, cells=cells)
        self.paper(False, part, part, left=having(SIDE, "again", "keep", "same"), table=table)
        self.paper(True, part, part, left=having(SIDE, "again", "keep"), table=table)

    def test_things_of_an_elder_inner_call(self):
        # The first inner call makes a thing, the next one answers it: that one came not from the very call.
        cells = ["cell c thing", "cell d truth no", "cell e truth no"]
        inner = ["if @e", "answer @c", "else", "make t given", "put c t", "put e truth.yes", "answer @c", "end"]
        fresh = ["make t given", "put c t", "answer @c"]
        table = ((("make", WAY, ("thing",)),), (("ask", WAY, WAY),), SAME, MODES)
        for rows, want in ((inner, False), (fresh, True)):
            body = ["var t thing", "var x bit", "if @d"] + rows + ["else", "end", "put d truth.yes", "call x ask given", "put d truth.no",
                                                                "put e truth.no", "make t given", "answer t"]
            part = self.part(table, body, cells=cells)
            self.paper(want, part, part, left=having(SIDE, "again", "keep", "same"), table=table)
            self.paper(True, part, part, left=having(SIDE, "keep", "same"), table=table)
            self.paper(True, part, part, left=having(SIDE, "again", "keep"), table=table)
            beside = {"right": having(SIDE, "again", "same"), "where": "beside"}
            self.paper(want, part, part, left=having(SIDE, "keep"), table=table, **beside)
            self.paper(True, part, part, left=having(SIDE, "keep"), table=modes(table, handles="fresh"), **beside)

    def test_fresh_things_of_inner_calls_without_a_memory(self):
        table = ((("give", ("thing",), ("thing",)), ("make", WAY, ("thing",))), (("ask", WAY, WAY),), SAME, MODES)
        made = ["var t thing", "make t bit.i", "answer t"]
        asking = ["var t thing", "var x bit", "call x ask given", "make t bit.i", "answer t"]
        for powers in (("again", "same"), ("again", "catch", "same"), ("again", "catch", "keep", "same")):
            side = having(SIDE, *powers)
            for where in ("alone", "beside"):
                self.things(True, (made, made), (made, made), table=table, left=side, right=side, where=where)
                self.things(True, (made, asking), (made, asking), table=table, left=side, right=side, where=where)
                self.things(False, (["answer given"], asking), (made, asking), table=table, left=side, right=side, where=where)

    ONE = (("bit", ("i",)), ("truth", ("no", "yes")), ("word", ("bad",)))

    def test_one_alone_comes_back_by_a_long_row(self):
        side, way = (self.ONE, (), ()), ("bit", "bit", ("i",))
        table = ((("f", way, way),), (("ask", way, way),), (("bad",), ("bad",), "bad", "bad", "bad"), MODES)
        for many in range(1, 7):
            ask = ["var x bit"] + ["call x ask given"] * many
            for end, want in (([], True), (["answer x"], False)):
                one, other = [read_part(side, faces(table), "\n".join(["body f"] + rows + ["end"])) for rows in (ask + end, [])]
                for powers in ((), ("keep",)):
                    for where in ("alone", "beside"):
                        own = having(side, *powers)
                        self.paper(want, one, other, left=own, right=own, table=table, where=where)

    HIT = ["cell busy truth no", "cell hit truth no"]

    def test_one_alone_comes_back_by_an_inner_call(self):
        body = ["var x bit", "if @busy", "put hit truth.yes", "answer given", "else", "put busy truth.yes", "call x ask given", "if @hit",
                "answer x", "else", "end", "end"]
        one, other = self.part(TABLE, body, cells=self.HIT), self.part(TABLE, [])
        self.paper(False, one, other, left=having(SIDE, "again", "keep"))
        self.paper(True, one, other, left=having(SIDE, "keep"))
        self.paper(False, one, other, left=having(SIDE, "keep"), right=having(SIDE, "again"), where="beside")
        self.paper(True, one, other, left=having(SIDE, "again", "keep"), where="beside")
        # It calls itself again only with o, which may be REFUSED, or never come.
        only = body[:2] + ["if !on given", "else"] + body[2:3] + ["end"] + body[3:]
        one = self.part(TABLE, only, cells=self.HIT)
        self.paper(False, one, other, left=having(SIDE, "again", "keep"))
        narrow = ((("f", ("bit", "bit", ("i", "")), WAY),),) + TABLE[1:]
        self.paper(True, one, other, left=having(SIDE, "keep"), right=having(SIDE, "again"), table=narrow, where="beside")

    def test_one_alone_comes_back_by_an_inner_fail_that_is_not_seen(self):
        body = ["var w word", "var x bit", "if @busy", "put hit truth.yes", "fail word.bad", "else", "put busy truth.yes", "try",
                "call x ask given", "catch w", "if @hit", "answer given", "else", "end", "end", "end"]
        one, other = self.part(TABLE, body, cells=self.HIT), self.part(TABLE, [])
        told = {"left": having(SIDE, "catch", "keep"), "where": "beside"}
        self.paper(False, one, other, right=having(SIDE, "again"), **told)
        self.paper(True, one, other, right=SIDE, **told)
        self.paper(True, one, other, right=having(SIDE, "again"), table=modes(TABLE, again="barred"), **told)
        self.paper(True, one, other, right=having(SIDE, "again"), table=modes(TABLE, failing="stops"), **told)
        # A partner that catches the inner FAIL may FAIL itself.
        self.paper(False, one, other, right=having(SIDE, "again", "catch"), **told)

    def test_an_inner_fail_that_stops(self):
        body = ["var w word", "var x bit", "if @busy", "put hit truth.yes", "fail word.bad", "else", "put busy truth.yes", "try",
                "call x ask given", "catch w", "if @hit", "answer bit.%s", "else", "end", "end", "end"]
        one, other = [self.part(TABLE, [row.replace("%s", raw) for row in body], cells=self.HIT) for raw in "io"]
        told = {"left": having(SIDE, "catch", "keep"), "where": "beside"}
        self.paper(False, one, other, right=having(SIDE, "again"), **told)
        self.paper(True, one, other, right=having(SIDE, "again"), table=modes(TABLE, failing="stops"), **told)
        self.paper(True, one, other, right=SIDE, **told)

    ROOMS = ((("a", WAY, WAY), ("m", WAY, ("thing",)), ("s", ("thing",), WAY)), (("ask", WAY, WAY),), SAME, MODES)
    ASKS = ["var x bit", "put busy truth.yes", "call x ask given", "if @hit", "answer x", "else", "end"]
    SHOWN = ["if @busy", "put hit truth.yes", "else", "end", "answer bit.i"]

    def test_one_alone_with_things_that_come_on_the_way(self):
        make_inner = ["var t thing", "if @busy", "make t word.off", "answer t", "else", "end"]
        for made, want in ((make_inner, False), ([], True)):
            one = self.part(self.ROOMS, self.ASKS, made, self.SHOWN, cells=self.HIT)
            other = self.part(self.ROOMS, [], [], [])
            self.paper(want, one, other, left=having(SIDE, "again", "keep"), table=self.ROOMS)
            self.paper(want, one, other, left=having(SIDE, "keep"), right=having(SIDE, "again"), table=self.ROOMS, where="beside")

    def test_one_alone_with_things_that_come_later(self):
        make_it = ["var t thing", "make t truth.yes", "answer t"]
        for last, want in ((make_it[2:], False), ([], True)):
            made = make_it[:2] + last
            # While it waits it makes none: so what it may be shown then comes from main's calls, which are looked at later.
            one = self.part(self.ROOMS, self.ASKS, made[:1] + ["if @busy", "else"] + made[1:] + ["end"], self.SHOWN, cells=self.HIT)
            other = self.part(self.ROOMS, [], made, ["answer bit.i"])
            self.paper(want, one, other, left=having(SIDE, "again", "keep"), table=self.ROOMS)
            self.paper(True, one, other, left=having(SIDE, "keep"), table=self.ROOMS)

    def test_things_that_come_from_things(self):
        table = ((("next", ("thing",), ("thing",)), ("start", WAY, ("thing",))), (("ask", WAY, WAY),), SAME, MODES)
        step = ["var t thing", "var x word", "look x given", "if !isbad x", "make t word.deep", "else", "if !isdeep x", "make t word.off",
                "else", "make t truth.no", "end", "end", "answer t"]
        start = ["var t thing", "make t word.bad", "answer t"]
        tokens = tuple([(content, content) for content in (("truth", "no"), ("word", "bad"), ("word", "deep"), ("word", "off"))])
        asking = ["var x bit", "call x ask given"] + start[1:]
        for powers in ((), ("keep",), ("again", "keep"), ("again", "catch"), ("again", "catch", "keep")):
            side = having(SIDE, *powers)
            for where in ("alone", "beside"):
                for first in (start, start[:1] + asking):
                    self.things(((((), ()),), tokens), (step, first), (step, first), left=side, right=side, table=table, where=where)
            # Only an inner call makes the last one.
            inner = ["var w word", "var y bit"] + step[:9] + ["try", "call y ask bit.i", "catch w", "if !isdeep w", "make t truth.no", "else",
                                                            "end", "end", "end", "end", "answer t"]
            many = 4 if "again" in powers and "catch" in powers else 3
            if "catch" in powers:
                words = (SAME[0], ("bad", "bad", "bad")) + SAME[2:]
                own = table[:2] + (words,) + table[3:]
                want = tokens if many == 4 else tokens[1:]
                self.things(((((), ()),), want), (inner, start), (inner, start), left=having(SIDE, "catch"), right=side, table=own,
                            where="beside")

    def test_an_import_that_waits_with_one_part_only(self):
        # An inner call tells the import which PART it is; it may go on for ever with one and answer the other one.
        def body(raw):
            return ["var w word", "var x bit", "try", "call x ask given", "catch w", "if !isdeep w", "answer bit." + raw, "else", "end",
                    "end", "answer bit.i"]

        table = TABLE[:2] + ((SAME[0], ("bad", "bad", "bad")) + SAME[2:], MODES)
        for powers in (("again",), ("again", "catch"), ("again", "catch", "keep")):
            told = {"left": having(SIDE, "catch"), "right": having(SIDE, *powers), "where": "beside"}
            self.bodies(False, body("i"), body("o"), table=table, **told)
            self.bodies(True, body("i"), body("o"), table=modes(table, again="barred"), **told)
            self.bodies(True, body("i"), body("o"), table=modes(table, imports="tabled"), **told)
            self.bodies(True, body("i"), body("i"), table=table, **told)

    def test_an_import_that_fails_with_one_part_only(self):
        def body(raw):
            return ["var w word", "var x bit", "try", "call x ask given", "catch w", "if !isdeep w", "answer bit." + raw, "else", "end",
                    "while truth.yes", "end", "end", "while truth.yes", "end"]

        # Whatever the import does, main's call never comes back.
        table = TABLE[:2] + ((SAME[0], ("bad", "bad", "bad")) + SAME[2:], MODES)
        for powers in (("again",), ("again", "catch"), ("again", "catch", "keep")):
            self.bodies(True, body("i"), body("o"), table=table, left=having(SIDE, "catch"), right=having(SIDE, *powers), where="beside")

    def test_states(self):
        last = self.part(TABLE, ["var x bit", "let x @c", "put c given", "answer x"], cells=["cell c bit o"])
        echo = self.part(TABLE, ["answer given"])
        self.paper((((("i",), ("i",)), (("o",), ("o",))), ()), last, last)
        narrow = ((("f", ("bit", "bit", ("i", "i")), WAY),),) + TABLE[1:]
        self.paper((((("i",), ()), (("o",), ())), ()), last, echo, table=narrow, right=BLIND, where="beside")
        thing = self.part(TABLE, ["var t thing", "make t given", "put c t", "answer given"], cells=["cell c thing"])
        self.paper((((((),), ()), ((("bit", "i"),), ()), ((("bit", "o"),), ())), ()), thing, echo)

    def test_a_state_is_left_only_by_an_answer_or_a_fail_that_is_seen(self):
        body = ["put c given", "if !on given", "answer given", "else", "fail word.off", "end"]
        part = self.part(TABLE, body, cells=["cell c bit i"])
        self.paper((((("i",), ("i",)),), ()), part, part)
        self.paper((((("i",), ("i",)), (("o",), ("o",))), ()), part, part, left=having(SIDE, "catch"))
        self.paper((((("i",), ("i",)),), ()), part, part, right=having(SIDE, "catch"), table=modes(TABLE, failing="stops"), where="beside")

    def test_any_value_is_a_paper_or_not(self):
        last = self.part(TABLE, ["var x bit", "let x @c", "put c given", "answer x"], cells=["cell c bit o", "cell t thing"])
        echo = self.part(TABLE, ["answer given"])
        told = {(): 0, True: 0, False: 0}
        found = (((("i", ()), ("i", ())), (("o", ()), ("o", ()))), ())
        self.assertEqual(paper(SIDE, SIDE, TABLE, "alone", last, last), found)
        for thing in list(ANY) + list(changed(found, ("i", "o", "no", "bit", "c"))):
            told[asked(self, is_paper, SIDE, SIDE, TABLE, "alone", last, last, thing)] += 1
        content = ("bit", "i")
        good = [found, (tuple(sorted(found[0] + ((("i", content), ("i", ())),) + ((("o", content), ("o", ())),))), ()),
                (found[0], ((content, ("truth", "no")),)), (found[0], ((content, content), (content, ("word", "off"))))]
        for thing in good:
            self.assertIs(is_paper(SIDE, SIDE, TABLE, "alone", last, last, thing), True)
        odd = tuple(sorted(found[0] + ((("i", ()), ("o", ())),)))
        for thing in ((odd, ()), (found[0][::-1], ()), (found[0] * 2, ()), (found[0], ((content,),)), (found[0], (content, content)),
                      (list(found[0]), ()), list(found), (found[0], []), found + ((),), (found[0][:1], ()), (found[0][1:], ()),
                      (found[0], ((content, ("bit", "no")),)), (found[0], ((content, ()),)), (found[0], ((content, content),) * 2),
                      (found[0] + ((("i", ("bit", "x")), ("i", ())),), ())):
            self.assertIs(asked(self, is_paper, SIDE, SIDE, TABLE, "alone", last, last, thing), False)
        self.assertGreater(told[False], 300)
        for thing in ANY:
            self.assertIs(is_paper(SIDE, SIDE, TABLE, "alone", echo, echo, thing), False)
            self.assertIs(is_paper(SIDE, SIDE, TABLE, "alone", echo, self.part(TABLE, []), (thing, ())), False)

    def test_nothing(self):
        asking = self.part(self.THINGS, ["var t thing", "make t given", "if = t t", "else", "end"], [])
        plain = self.part(self.THINGS, ["var t thing", "make t given"], [])
        side = having(SIDE, *ALL)
        for one, other in ((asking, plain), (plain, asking), (asking, asking)):
            for where in ("alone", "beside"):
                with self.assertRaises(Nothing):
                    paper(side, side, self.THINGS, where, one, other)
                for thing in (None, TRIVIAL):
                    with self.assertRaises(Nothing):
                        is_paper(side, side, self.THINGS, where, one, other, thing)


NUM = (("num", tuple("abcdefgh")), ("truth", ("no", "yes")), ("word", ("bad",)))
STEPS = (("at", ("num",), "truth", ("no",) * 7 + ("yes",)), ("no", ("truth",), "truth", ("yes", "no")),
         ("step", ("num",), "num", tuple("bcdefgha")))
COUNT = (NUM, STEPS, ("keep",))
NUMWAY = ("num", "num", tuple("abcdefgh"))


def counting(names, sign):
    """Lines that count variables, or cells, on, the first one fastest."""
    verb = "put " if sign else "let "
    rows = [verb + names[0] + " !step " + sign + names[0]]
    if len(names) > 1:
        rows += ["if !at " + sign + names[0]] + counting(names[1:], sign) + ["else", "end"]
    return rows


class Many(unittest.TestCase):
    """More than 4,000."""

    def table(self, imports=()):
        return ((("f", ("truth", "truth", ("no", "yes")), ("truth", "truth", ("no", "yes"))),), imports, (("bad",), ("bad",), "bad", "bad",
                                                                                                     "bad"), MODES)

    def part(self, table, rows, cells=(), side=COUNT):
        return read_part(side, faces(table), "\n".join(list(cells) + ["body f"] + rows + ["end"]))

    def counter(self, table, many, rows=()):
        names = "pqrs"[:many]
        return self.part(table, counting(names, "@") + list(rows) + ["answer given"], ["cell " + name + " num a" for name in names])

    def too_many(self, told, *given):
        before = repr(given)
        for call in ((paper, given), (is_paper, given + (told,))):
            with self.assertRaises(TooMany) as caught:
                call[0](*call[1])
            self.assertEqual(caught.exception.most, 4000)
        self.assertEqual(repr(given), before)

    def test_states(self):
        table = self.table()
        found = paper(COUNT, COUNT, table, "alone", self.counter(table, 3), self.part(table, ["answer given"]))
        self.assertEqual(len(found[0]), 512)
        self.assertIs(is_paper(COUNT, COUNT, table, "alone", self.counter(table, 3), self.part(table, ["answer given"]), found), True)
        with self.assertRaises(TooMany) as caught:
            paper(COUNT, COUNT, table, "alone", self.counter(table, 4), self.part(table, ["answer given"]))
        self.assertEqual(caught.exception.most, 4000)
        # Where not the same is SEEN before so many come about there is no PAPER.
        self.assertIsNone(paper(COUNT, COUNT, table, "alone", self.counter(table, 4), self.part(table, ["answer truth.no"])))

    def test_just_four_thousand_states(self):
        kinds = (("five", tuple("abcde")),) + NUM
        steps = (("at", ("num",), "truth", ("no",) * 7 + ("yes",)), ("last", ("five",), "truth", ("no",) * 4 + ("yes",)),
                 ("no", ("truth",), "truth", ("yes", "no")), ("on", ("five",), "five", tuple("bcdea")),
                 ("step", ("num",), "num", tuple("bcdefgha")))
        side = (kinds, steps, ("keep",))
        table = self.table()
        cells = ["cell " + name + " five a" for name in "abc"] + ["cell n num a", "cell y truth no", "cell z truth no"]
        rows = ["put z !no @z", "if @z", "else"]
        for name in "abc":
            rows += ["put " + name + " !on @" + name, "if !last @" + name]
        rows += ["put n !step @n", "if !at @n", "put y !no @y", "else", "end"] + ["else", "end"] * 3 + ["end", "answer given"]
        plain = self.part(table, ["answer given"], side=side)
        found = paper(side, side, table, "alone", self.part(table, rows, cells, side), plain)
        self.assertEqual(len(found[0]), 4000)
        self.assertIs(is_paper(side, side, table, "alone", self.part(table, rows, cells, side), plain, found), True)
        more = self.part(table, ["put x truth.yes"] + rows, cells + ["cell x truth no"], side)
        with self.assertRaises(TooMany):
            paper(side, side, table, "alone", more, plain)

    def test_waiting(self):
        told = ("truth", "truth", ("no", "yes"))
        table = self.table((("ask", told, told),))
        names = "pqrs"
        rows = ["var " + name + " num" for name in names] + ["var y truth", "while truth.yes"] + counting(names, "") + [
            "call y ask truth.no", "end"]
        part = self.part(table, rows)
        self.too_many((((((), ()),)), ()), COUNT, COUNT, table, "alone", part, part)
        # Three go round.
        rows = ["var " + name + " num" for name in names[:3]] + ["var y truth", "while truth.yes"] + counting(names[:3], "") + [
            "call y ask truth.no", "end"]
        part = self.part(table, rows)
        self.assertEqual(paper(COUNT, COUNT, table, "alone", part, part), TRIVIAL)

    def test_one_alone(self):
        told = ("truth", "truth", ("no", "yes"))
        table = self.table((("ask", told, told),))

        def asking(names):
            rows = ["var " + name + " num" for name in names] + ["var y truth", "call y ask truth.yes", "while truth.yes"]
            return self.part(table, rows + counting(names, "") + ["call y ask truth.no", "end"])

        mute = self.part(table, [])
        self.too_many(TRIVIAL, COUNT, COUNT, table, "alone", asking("pqrs"), mute)
        self.too_many(TRIVIAL, COUNT, COUNT, table, "alone", mute, asking("pqrs"))
        self.assertEqual(paper(COUNT, COUNT, table, "alone", asking("pqr"), mute), TRIVIAL)

    def test_choices(self):
        table = self.table((("ask", NUMWAY, NUMWAY),))
        side = COUNT[:2] + ((),)

        def asking(many):
            rows = ["var x num"] + ["call x ask num." + raw for raw in "abcdefgh"[:many]] + ["answer given"]
            return self.part(table, rows)

        self.assertEqual(paper(side, side, table, "alone", asking(2), asking(2)), TRIVIAL)
        self.too_many(TRIVIAL, side, side, table, "alone", asking(5), asking(5))
        # A KIND whose RAWS are ALIKE is asked as one.
        blind = (NUM, (), ())
        self.assertEqual(paper(blind, blind, table, "alone", asking(8), asking(8)), TRIVIAL)

    def test_steps(self):
        table = self.table()
        for many, is_good in ((3, True), (4, False)):
            names = "pqrs"[:many]
            begin = ["var " + name + " num" for name in names]
            rows = begin + ["while !no !at " + names[-1]] + counting(names, "") + ["end", "answer given"]
            part, plain = self.part(table, rows), self.part(table, ["answer given"])
            if is_good:
                self.assertEqual(paper(COUNT, COUNT, table, "alone", part, plain), TRIVIAL)
            else:
                self.too_many(TRIVIAL, COUNT, COUNT, table, "alone", part, plain)
            # A body that comes back to where it has been goes on for ever.
            rows = begin + ["while truth.yes"] + counting(names, "") + ["end", "answer given"]
            part, plain = self.part(table, rows), self.part(table, [])
            if is_good:
                self.assertEqual(paper(COUNT, COUNT, table, "alone", part, plain), TRIVIAL)
            else:
                self.too_many(TRIVIAL, COUNT, COUNT, table, "alone", part, plain)

    def test_just_four_thousand_steps(self):
        table = self.table((("ask", NUMWAY, NUMWAY),))
        names = "pqr"
        begin = ["var " + name + " num" for name in names]
        loop = ["while !no !at r"] + counting(names, "") + ["end"]
        plain = self.part(table, ["answer given"])
        partner = read_partner(COUNT, faces(table), "main\nvar y truth\ncall y f y\nend\nbody ask\nanswer given\nend")

        def steps(rows):
            """How many STEPS lie between the call and the answer."""
            part = self.part(table, rows)
            return bisect.bisect_left(range(6000), 2, key=lambda most: len(run_alone(COUNT, table, part, partner, most)[1])) - 1

        short = begin + loop + ["answer given"]
        pad = ["let p p"] * (4000 - steps(short))
        just = begin + pad + loop + ["answer given"]
        self.assertEqual(steps(just), 4000)
        self.assertEqual(paper(COUNT, COUNT, table, "alone", self.part(table, just), plain), TRIVIAL)
        self.too_many(TRIVIAL, COUNT, COUNT, table, "alone", self.part(table, begin + ["let p p"] + just[3:]), plain)
        # They are counted from CROSSING to CROSSING.
        asking = [begin + ["var x num"] + first + ["call x ask num.a"] + just[3:] for first in ([], pad + loop)]
        for rows in asking:
            self.assertEqual(paper(COUNT, COUNT, table, "alone", self.part(table, rows), self.part(table, rows)), TRIVIAL)

    def test_loops_that_runs_do_not_end(self):
        table = self.table((("ask", NUMWAY, NUMWAY),))
        making = self.part(table, ["var t thing", "while truth.yes", "make t given", "end"])
        side = (NUM, STEPS, ("again", "catch", "keep"))
        trying = self.part(table, ["var w word", "var x num", "while truth.yes", "try", "call x ask num.a", "catch w", "end", "end"], side=side)
        mute = self.part(table, [])
        self.assertEqual(paper(side, side, table, "alone", making, mute), TRIVIAL)
        self.assertEqual(paper(side, side, table, "alone", trying, mute), TRIVIAL)


LETTERS = tuple("ijklmnop")
WIDE = (tuple([(name, NUMWAY, NUMWAY) for name in "efgh"]), tuple([(name, NUMWAY, NUMWAY) for name in "xyz"]),
        (LETTERS, LETTERS, "i", "i", "i"), MODES)


class Bounds(unittest.TestCase):
    """SIDES of KINDS of eight RAWS, four exports, three imports; BESIDE all RAWS are ALIKE, so each comes with each other one."""

    def found(self, tells, powers, where, rows, cells=(), table=WIDE):
        side = (NUM[:2] + (("word", LETTERS),), STEPS if tells else (), powers)
        lines = list(cells)
        for name, *_ in table[0]:
            lines += ["body " + name] + (rows[name] if isinstance(rows, dict) else rows) + ["end"]
        part = read_part(side[:2] + (make.POWERS,), faces(table), "\n".join(lines))
        try:
            found = paper(side, side, table, where, part, part)
        except TooMany:
            return "many"
        self.assertIs(is_paper(side, side, table, where, part, part, found), True)
        return len(found[0]), len(found[1])

    def test_parts_with_cells(self):
        cells = ["cell c num a", "cell d num a", "cell e num a"]
        shift = ["var x num", "put e @d", "put d @c", "put c given"]
        powers = ("again", "catch", "keep")
        self.assertEqual(self.found(True, powers, "alone", shift + ["answer x"], cells), (512, 0))
        self.assertEqual(self.found(False, powers, "alone", shift + ["answer x"], cells), (512, 0))
        self.assertEqual(self.found(False, powers, "beside", shift[:1] + shift[3:] + ["answer x"], cells[:1]), (64, 0))
        self.assertEqual(self.found(False, powers, "beside", shift + ["answer x"], cells), "many")
        self.assertEqual(self.found(True, powers, "alone", shift + ["call x x given", "answer x"], cells), "many")
        asks = ["var x num", "call x x num.a", "put c x", "answer num.a"]
        self.assertEqual(self.found(True, ("keep",), "alone", asks, cells[:1]), (8, 0))
        self.assertEqual(self.found(True, ("again", "keep"), "alone", asks, cells[:1]), (8, 0))

    def test_parts_without_cells(self):
        asks = ["var w word", "var x num", "try", "call x x given", "catch w", "answer num.b", "end", "answer x"]
        for powers in ((), ("again", "catch"), ("again", "catch", "keep")):
            self.assertEqual(self.found(True, powers, "alone", asks), (1, 0))
            self.assertEqual(self.found(True, powers, "beside", asks), (1, 0))
            self.assertEqual(self.found(False, powers, "beside", ["var x num", "call x x num.a", "answer x"]), (1, 0))

    def test_things(self):
        thing = ("thing",)
        table = ((("e", NUMWAY, thing), ("f", thing, thing), ("g", thing, NUMWAY), ("h", thing, NUMWAY)),) + WIDE[1:]
        rows = {"e": ["var t thing", "make t given", "answer t"], "f": ["answer given"], "g": ["var x num", "look x given", "answer x"],
                "h": ["var x num", "call x x num.a", "look x given", "answer x"]}
        for powers in ((), ("again", "catch"), ("again", "catch", "keep")):
            self.assertEqual(self.found(True, powers, "alone", rows, (), table), (1, 8))
            self.assertEqual(self.found(False, powers, "beside", rows, (), table), (1, 64))


class Runs(unittest.TestCase):
    """Where there is a PAPER no partner parts both PARTS."""

    def test_random_programs(self):
        told = collections.Counter()
        for seed in range(260):
            left, right = make.side(seed, 4), make.side(seed + 10 ** 6, 4)
            if seed % 3:
                left, right = left[:2] + (make.POWERS,), right[:2] + (make.POWERS,)
            if seed % 5 == 0:
                left = left[:2] + (tuple([power for power in left[2] if power != "keep"]),)
            table = make.level_table(seed, left, right)
            one = make.lively_part(seed, left, faces(table), "plain")
            other = make.varied(seed, left, one)
            if not is_part(left, faces(table), other):
                continue
            for where in ("alone", "beside"):
                found = paper(left, right, table, where, one, other)
                told[where, found is not None] += 1
                if found is None:
                    continue
                self.assertIs(is_paper(left, right, table, where, one, other, found), True)
                for at in range(12):
                    if where == "alone":
                        partner = make.lively_partner(seed * 100 + at, left, faces(table))
                        ends = [run_alone(left, table, part, partner, 500)[0] for part in (one, other)]
                    else:
                        partner = make.lively_partner(seed * 100 + at, right, right_faces(table))
                        ends = [run_beside(left, right, table, part, partner, 500)[0] for part in (one, other)]
                    self.assertTrue("on" in ends or (ends[0] == "yes") == (ends[1] == "yes"), (seed, where, at))
        for key in told:
            self.assertGreater(told[key], 20, key)


if __name__ == "__main__":
    unittest.main()
