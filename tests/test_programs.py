"""[20] programs."""

import unittest

from besidealone.programs import faces_of, is_part, is_partner, powers_of, size_of
from besidealone.telling import filled, term
from tests import make, reference
from tests.helpers import ANY, asked, assert_tells, changed
from tests.test_likeness import chain

KINDS = (("bit", ("i", "o")), ("truth", ("no", "yes")), ("word", ("bad", "odd")))
TESTS = (("bit", ("truth", "bit"), "bit", ("i", "o", "o", "i")), ("on", ("bit",), "truth", ("yes", "no")))
SIDE = (KINDS, TESTS, ("again", "catch", "keep", "same"))
FACES = ((("eat", "thing", "truth"), ("flip", "bit", "bit"), ("new", "bit", "thing")),
         (("ask", "bit", "truth"), ("tell", "truth", "bit")))
I, NO, BAD = ("raw", "bit", "i"), ("raw", "truth", "no"), ("raw", "word", "bad")
X, Y, T, U, W, GIVEN = [("name", name) for name in ("x", "y", "t", "u", "w", "given")]
LAST, KEPT = ("cell", "last"), ("cell", "kept")
ON_X = ("do", "on", (X,))
NAMES = (("t", "thing"), ("u", "thing"), ("w", "word"), ("x", "bit"), ("y", "truth"))
CELLS = (("kept", "thing", ""), ("last", "bit", "o"))


def variables(given=None):
    """The variables of a body that takes this."""
    return tuple(sorted(NAMES + ((("given", given),) if given else ())))


def part(*statements, cells=CELLS, names=None, face=1):
    """A PART with these STATEMENTS in the body of one export."""
    bodies = [(variables(row[1]), ()) for row in FACES[0]]
    bodies[face] = (variables(FACES[0][face][1]) if names is None else names, statements)
    return (cells, tuple(bodies))


def partner(*statements, cells=CELLS, names=NAMES):
    """A PARTNER with these STATEMENTS in main."""
    return (cells, (names, statements), tuple([(variables(row[1]), ()) for row in FACES[1]]))


def helper(*statements, cells=CELLS, names=None, face=0):
    """A PARTNER with these STATEMENTS in the body of one import."""
    bodies = [(variables(row[1]), ()) for row in FACES[1]]
    bodies[face] = (variables(FACES[1][face][1]) if names is None else names, statements)
    return (cells, (NAMES, ()), tuple(bodies))


def faces_for(seed, side):
    """FACES with KINDS of a SIDE, made at random."""
    exports, imports = make.table(seed, side, side, 3, 2)[:2]
    return (tuple([(name, "thing" if len(into) == 1 else into[1], out[0]) for name, into, out in exports]),
            tuple([(name, out[0], into[1]) for name, out, into in imports]))


class Base(unittest.TestCase):

    def check_part(self, want, thing, side=SIDE, faces=FACES):
        self.assertIs(reference.part_ok(side, faces, thing), want, thing)
        assert_tells(self, is_part, (side, faces), thing, want)

    def check_partner(self, want, thing, side=SIDE, faces=FACES):
        self.assertIs(reference.partner_ok(side, faces, thing), want, thing)
        assert_tells(self, is_partner, (side, faces), thing, want)

    def check(self, places, *statements, side=SIDE):
        """Just in these places, of part, main and body, the STATEMENTS fit."""
        self.check_part("part" in places, part(*statements), side)
        self.check_partner("main" in places, partner(*statements), side)
        self.check_partner("body" in places, helper(*statements), side)
        for deep in (("if", NO, statements, ()), ("if", NO, (), statements), ("while", NO, statements),
                     ("try", statements, "w", ()), ("try", (), "w", statements),
                     ("while", NO, (("try", (("if", NO, (), (("while", NO, statements),)),), "w", ()),))):
            if "catch" in side[2] or "try" not in repr(deep):
                self.check_part("part" in places, part(deep), side)
                self.check_partner("main" in places, partner(deep), side)
                self.check_partner("body" in places, helper(deep), side)


ALL = ("part", "main", "body")


class Statements(Base):

    def test_none(self):
        self.check(ALL)

    def test_let(self):
        for name, expression in (("x", I), ("x", X), ("x", LAST), ("t", U), ("t", KEPT), ("w", BAD), ("w", W), ("y", NO),
                                 ("y", ON_X), ("y", ("same", T, U)), ("x", ("do", "bit", (Y, X))), ("t", T)):
            self.check(ALL, ("let", name, expression))
        for name, expression in (("x", NO), ("x", BAD), ("x", T), ("x", ON_X), ("t", I), ("y", X), ("w", X), ("zz", I),
                                 ("last", I), ("x", KEPT), ("x", "x"), ("x", ()), ("x", None), (("name", "x"), I),
                                 (None, I), ("", I)):
            self.check((), ("let", name, expression))
        self.check(("part", "body"), ("let", "x", GIVEN))
        self.check(("part", "body"), ("let", "given", X))
        self.check((), ("let", "given", Y))

    def test_put(self):
        for name, expression in (("last", I), ("last", X), ("last", LAST), ("kept", T), ("kept", KEPT)):
            self.check(ALL, ("put", name, expression))
        for name, expression in (("last", NO), ("last", T), ("kept", X), ("x", X), ("zz", I), (("cell", "last"), I),
                                 ("kept", None), (None, I), ("", I)):
            self.check((), ("put", name, expression))

    def test_call(self):
        self.check(("part",), ("call", "y", "ask", X))
        self.check(("part",), ("call", "x", "tell", ON_X))
        for row in (("y", "eat", T), ("x", "flip", X), ("t", "new", I), ("t", "new", ("do", "bit", (NO, I)))):
            self.check(("main", "body"), ("call", *row))
        for row in (("x", "ask", X), ("y", "ask", Y), ("y", "ask", T), ("x", "eat", T), ("y", "eat", X), ("x", "new", X),
                    ("t", "flip", X), ("x", "flip", T), ("x", "zz", X), ("x", "bit", X), ("zz", "flip", X),
                    ("zz", "ask", X), ("x", None, X), (None, "flip", X), ("x", ["flip"], X), ("w", "flip", X),
                    ("", "flip", X), ("x", "", X), ("last", "flip", X)):
            self.check((), ("call", *row))

    def test_make_and_look(self):
        for expression in (I, NO, BAD, X, ON_X, LAST):
            self.check(("part",), ("make", "t", expression))
            self.check((), ("make", "x", expression))
        for row in (("make", "t", T), ("make", "t", KEPT), ("make", "zz", I), ("make", "kept", I), ("make", "t", None)):
            self.check((), row)
        for name in ("x", "y", "w", "given"):
            self.check(("part",), ("look", name, T))
            self.check(("part",), ("look", name, KEPT))
            self.check((), ("look", name, X))
        for row in (("look", "t", T), ("look", "zz", T), ("look", "last", T), ("look", "x", ("do", "on", (T,)))):
            self.check((), row)

    def test_if_and_while(self):
        for expression in (NO, Y, ON_X, ("same", T, KEPT)):
            self.check(ALL, ("if", expression, (), ()))
            self.check(ALL, ("while", expression, ()))
        for expression in (I, X, T, BAD, "y", ("do", "on", (Y,)), None, ()):
            self.check((), ("if", expression, (), ()))
            self.check((), ("while", expression, ()))
        for row in (("if", NO, ()), ("if", NO), ("if", NO, (), (), ()), ("while", NO), ("while", NO, (), ()),
                    ("if", NO, [], ()), ("if", NO, (), None), ("while", NO, []), ("while", NO, {}),
                    ("while", NO, ("say", "yes")), ("if", NO, (), ((),)), ("while", NO, ((),))):
            self.check((), row)

    def test_try(self):
        self.check(ALL, ("try", (), "w", ()))
        for row in (("try", (), "x", ()), ("try", (), "t", ()), ("try", (), "zz", ()), ("try", (), "w"), ("try", (), ()),
                    ("try", [], "w", ()), ("try", (), "w", []), ("try", (), W, ()), ("try", (), None, ()),
                    ("try", (("let", "x", NO),), "w", ()), ("try", (), "w", (("let", "x", NO),))):
            self.check((), row)

    def test_answer(self):
        for face, good, bad in ((0, (NO, Y, ON_X), (I, T, BAD, GIVEN)), (1, (I, X, GIVEN, LAST), (NO, T, W)),
                                (2, (T, U, KEPT), (I, X, GIVEN, NO))):
            for expression in good + bad:
                self.check_part(expression in good, part(("answer", expression), face=face))
        for face, good, bad in ((0, (NO, Y, ON_X), (I, T, BAD, GIVEN)), (1, (I, X, LAST), (NO, T, W, GIVEN))):
            for expression in good + bad:
                self.check_partner(expression in good, helper(("answer", expression), face=face))
                self.check_partner(False, partner(("answer", expression)))
        self.check((), ("answer",))
        self.check((), ("answer", None))
        self.check((), ("answer", X, X))

    def test_fail(self):
        for expression in (BAD, W):
            self.check(ALL, ("fail", expression))
        for expression in (I, T, NO, "bad", ("raw", "word", "zz"), None):
            self.check((), ("fail", expression))

    def test_say(self):
        self.check(("main",), ("say", "yes"))
        self.check(("main",), ("say", "no"))
        for row in (("say", "i"), ("say", NO), ("say", ""), ("say", True), ("say",), ("say", "yes", "yes"), ("say", None)):
            self.check((), row)

    def test_no_statements(self):
        for row in (("leave",), ("let", "x"), ("let", "x", I, I), ("put", "last"), ("call", "x", "flip"), ("raw", "bit", "i"),
                    (), "say", None, True, ["say", "yes"], ["let", "x", I], {"let": "x"}, ("Let", "x", I), (("let",), "x", I),
                    (None, "x", I), ("", "x", I), (["let"], "x", I)):
            self.check((), row)

    def test_several(self):
        self.check(ALL, ("let", "x", I), ("let", "y", ON_X), ("while", Y, (("let", "y", NO),)))
        self.check((), ("let", "x", I), ("let", "y", X))


class Expressions(Base):

    def test_each(self):
        for expression, kind in ((I, "bit"), (NO, "truth"), (BAD, "word"), (X, "bit"), (T, "thing"), (LAST, "bit"),
                                 (KEPT, "thing"), (ON_X, "truth"), (("do", "bit", (ON_X, I)), "bit"),
                                 (("do", "bit", (("same", T, KEPT), ("do", "bit", (NO, X)))), "bit"),
                                 (("same", T, T), "truth"), (("same", KEPT, U), "truth")):
            for name, own in NAMES:
                self.check(ALL if own == kind else (), ("let", name, expression))

    def test_none(self):
        for expression in (("raw", "bit", "zz"), ("raw", "zz", "i"), ("raw", "bit"), ("raw", "bit", "i", "i"),
                           ("raw", "truth", "i"), ("raw", "thing", "t"), ("raw", "bit", ""), ("raw", None, "i"),
                           ("name", "zz"), ("name",), ("name", "x", "x"), ("name", "last"), ("name", ""), ("name", None),
                           ("cell", "x"), ("cell", "zz"), ("cell",), ("cell", None), ("cell", ""), ("do", "zz", (X,)),
                           ("do", "on", ()), ("do", "on", (X, X)), ("do", "on", X), ("do", "on", [X]), ("do", "on"),
                           ("do", "on", (T,)), ("do", "on", (NO,)), ("do", "bit", (X, Y)), ("do", None, (X,)),
                           ("do", "on", (("do", "on", (X,)),)), ("same", T, X), ("same", X, X), ("same", T), ("same", T, T, T),
                           ("same", (T, T)), ("same", T, ("same", T, T)), ("hole",), ["raw", "bit", "i"], "x", (), None,
                           True, 0, {"name": "x"}, ("", "bit", "i"), (None, "x"), (["name"], "x")):
            for name, kind in NAMES:
                self.check((), ("let", name, expression))

    def test_raws_of_words_and_things_in_no_other_way(self):
        self.check(ALL, ("let", "w", ("raw", "word", "odd")))
        self.check((), ("let", "t", ("do", "on", (X,))))


class Powers(Base):

    def test_each_power_is_needed(self):
        for at, power in enumerate(SIDE[2]):
            without = (KINDS, TESTS, SIDE[2][:at] + SIDE[2][at + 1:])
            for side in (without, (KINDS, TESTS, (power,)), (KINDS, TESTS, ())):
                has = dict.fromkeys(side[2], True).get
                for own in ((), CELLS):
                    self.check_part(own == () or has("keep", False), part(cells=own), side)
                    self.check_partner(own == () or has("keep", False), partner(cells=own), side)
                for row, needed in ((("try", (), "w", ()), "catch"), (("let", "y", ("same", T, U)), "same"),
                                    (("if", ("same", T, U), (), ()), "same")):
                    for deep in (row, ("while", NO, (row,))):
                        self.check_part(has(needed, False), part(deep, cells=()), side)
                        self.check_partner(has(needed, False), partner(deep, cells=()), side)
                        self.check_partner(has(needed, False), helper(deep, cells=()), side)
                row = ("call", "x", "flip", X)
                self.check_partner(True, partner(row, cells=()), side)
                self.check_partner(has("again", False), helper(row, cells=()), side)
                self.check_partner(has("again", False), helper(("while", NO, (row,)), cells=()), side)
                self.check_part(True, part(("call", "y", "ask", X), cells=()), side)

    def test_powers_that_are_used(self):
        same = ("let", "y", ("same", T, U))
        deep = ("let", "x", ("do", "bit", (("same", T, U), X)))
        caught = ("if", NO, (("while", NO, (("try", (), "w", ()),)),), ())
        for program, powers in ((part(cells=()), ()), (part(), ("keep",)), (partner(), ("keep",)), (partner(cells=()), ()),
                                (part(same, cells=()), ("same",)), (part(deep, cells=()), ("same",)),
                                (part(caught, cells=()), ("catch",)), (part(caught, deep), ("catch", "keep", "same")),
                                (partner(caught, same, cells=()), ("catch", "same")),
                                (helper(caught, deep), ("catch", "keep", "same")),
                                (part(("call", "y", "ask", X), cells=()), ()),
                                (partner(("call", "x", "flip", X), cells=()), ()),
                                (helper(("call", "x", "flip", X), cells=()), ("again",)),
                                (helper(("try", (), "w", (("call", "x", "flip", X),)), cells=()), ("again", "catch")),
                                (helper(("if", NO, (), (("try", (("call", "x", "flip", X), same), "w", ()),))), SIDE[2])):
            self.assertEqual(asked(self, powers_of, program), powers)
        places = (("if", ("same", T, U), (), ()), ("while", ("same", T, U), ()), ("answer", ("same", T, U)),
                  ("call", "x", "tell", ("same", T, U)), ("make", "t", ("same", T, U)))
        for row in places:
            self.assertEqual(powers_of(part(row, cells=(), face=0)), ("same",))
        self.assertEqual(powers_of((CELLS, (NAMES, (("put", "t", ("same", T, U)),)), ())), ("keep", "same"))


class Parts(Base):

    def test_bodies(self):
        good = part()
        self.check_part(True, good)
        self.check_part(False, (CELLS, good[1][:2]))
        self.check_part(False, (CELLS, good[1] + good[1][:1]))
        self.check_part(False, (CELLS, ()))
        self.check_part(False, (CELLS, list(good[1])))
        self.check_part(False, list(good))
        self.check_part(False, good[:1])
        self.check_part(False, good + ((),))
        self.check_part(False, partner())
        for body in ((), (NAMES,), (variables("bit"), (), ()), [variables("bit"), ()], (list(variables("bit")), ()),
                     (variables("bit"), []), (variables("bit"), None), None):
            self.check_part(False, (CELLS, good[1][:1] + (body,) + good[1][2:]))

    def test_given(self):
        for names, want in (((("given", "bit"),), True), ((), False), ((("given", "truth"),), False),
                            ((("given", "thing"),), False), ((("given", "bit"), ("x", "bit")), True),
                            ((("given", "bit"), ("given", "truth")), False), ((("x", "bit"), ("given", "bit")), False)):
            self.check_part(want, part(names=names))
            self.check_partner(want, helper(names=names))
        self.check_part(True, part(names=(("given", "thing"),), face=0))
        self.check_part(False, part(names=(("given", "truth"),), face=0))
        self.check_partner(False, partner(names=(("given", "bit"),)))
        self.check_partner(False, partner(names=(("given", "thing"),)))

    def test_variables(self):
        for names, want in (((), True), ((("a", "word"),), True), ((("a", "thing"),), True), ((("a", "zz"),), False),
                            ((("A", "bit"),), False), ((("", "bit"),), False), ((("b", "bit"), ("a", "bit")), False),
                            ((("a", "bit"), ("a", "bit")), False), ((("a", "bit"), ("a", "truth")), False),
                            (((("a",), "bit"),), False), ((("a", ["bit"]),), False), (([("a", "bit")]), False),
                            ((["a", "bit"],), False), ((("a", "bit", "i"),), False), ((("a", None),), False),
                            ((("bit", "bit"), ("thing", "thing")), True)):
            self.check_partner(want, partner(names=names))

    def test_cells(self):
        for cells, want in (((), True), ((("a", "word", "odd"),), True), ((("a", "thing", ""),), True),
                            ((("given", "bit", "i"),), True), ((("x", "bit", "i"),), True), ((("a", "bit", "zz"),), False),
                            ((("a", "bit", ""),), False), ((("a", "thing", "i"),), False), ((("a", "zz", "i"),), False),
                            ((("a", "bit"),), False), ((("A", "bit", "i"),), False), ((("a", "truth", "i"),), False),
                            ((("b", "bit", "i"), ("a", "bit", "i")), False), ((("a", "bit", "i"),) * 2, False),
                            ((["a", "bit", "i"],), False), ([("a", "bit", "i")], False), ((("a", "thing", None),), False),
                            (None, False), ((("a", ["bit"], "i"),), False), ((("a", "bit", ["i"]),), False)):
            self.check_part(want, part(cells=cells))
            self.check_partner(want, partner(cells=cells))
        self.check_part(True, part(("let", "x", ("cell", "x")), ("put", "x", X), cells=(("x", "bit", "i"),)))

    def test_partners(self):
        good = partner()
        self.check_partner(True, good)
        for thing in (good[:2], good + ((),), list(good), (good[0], list(good[1]), good[2]), (good[0], (), good[2]),
                      good[:2] + (good[2][:1],), good[:2] + (good[2] * 2,), good[:2] + (list(good[2]),), part(),
                      good[:2] + (good[2][::-1],), (good[0], (NAMES,), good[2]), (good[0], (NAMES, None), good[2])):
            self.check_partner(False, thing)

    def test_unlike_bodies_may_have_the_same_names(self):
        thing = partner(names=(("x", "word"),))
        self.check_partner(True, thing[:2] + (((((("given", "bit"), ("x", "truth"))), ()), helper()[2][1]),))

    def test_without_imports(self):
        faces = ((("flip", "bit", "bit"),), ())
        self.check_part(True, ((), (((("given", "bit"),), ()),)), SIDE, faces)
        self.check_partner(True, ((), ((), ()), ()), SIDE, faces)
        self.check_part(False, ((), (((("given", "bit"),), (("call", "given", "ask", I),)),)), SIDE, faces)

    def test_other_faces(self):
        other = (FACES[0], (("ask", "bit", "bit"), ("tell", "truth", "bit")))
        self.check_part(True, part(("call", "y", "ask", X)))
        self.check_part(False, part(("call", "y", "ask", X)), SIDE, other)


class Changed(Base):

    def test_programs_made_at_random(self):
        for seed in range(150):
            side = make.side(seed, 4, 3, 4)
            left_faces = faces_for(seed, side)
            for thing, function in ((make.part(seed, side, left_faces), self.check_part),
                                    (make.partner(seed, side, left_faces), self.check_partner)):
                function(True, thing, side, left_faces)
                self.assertEqual(powers_of(thing), tuple(sorted(powers_of(thing))))
                self.assertLessEqual(set(powers_of(thing)), set(side[2]))

    def test_one_thing_changed_at_any_depth(self):
        looked = ("if", ON_X, (("make", "t", X), ("look", "y", KEPT)), (("answer", X),))
        caught = ("try", (("call", "x", "tell", ("same", T, U)),), "w", (("while", Y, (("put", "last", I),)),))
        one = (CELLS, (((("given", "bit"), ("t", "thing"), ("u", "thing"), ("w", "word"), ("x", "bit"), ("y", "truth")),
                        (looked, caught, ("fail", BAD))),))
        main = (NAMES, (("call", "x", "flip", I), ("if", ("do", "on", (X,)), (("say", "yes"),), (("let", "t", U),))))
        two = (CELLS, main, (((("given", "bit"), ("x", "bit")), (("call", "x", "flip", GIVEN), ("answer", ON_X))),
                             ((("given", "truth"),), ())))
        words = ("x", "t", "w", "y", "last", "given", "bit", "truth", "word", "i", "no", "bad", "flip", "ask", "tell", "on",
                 "let", "answer", "say", "name", "cell", "")
        faces = (FACES[0][1:2], FACES[1])
        told = {True: 0, False: 0}
        for program, function, check in ((one, is_part, reference.part_ok), (two, is_partner, reference.partner_ok)):
            self.assertIs(function(SIDE, faces, program), True)
            for thing in changed(program, words):
                want = check(SIDE, faces, thing)
                told[want] += 1
                self.assertIs(function(SIDE, faces, thing), want, thing)
        self.assertGreater(told[True], 200)
        self.assertGreater(told[False], 5000)

    def test_any_value(self):
        for thing in ANY:
            self.check_part(False, thing)
            self.check_partner(False, thing)
            for near in (part(thing), part(("let", "x", thing)), part(("let", thing, I)), part(("while", NO, thing)),
                         part(("if", thing, (), ())), part(("let", "x", ("do", thing, (X,)))), part(cells=thing),
                         part(("let", "x", ("do", "on", thing))), part(("let", "x", ("name", thing))), (thing, part()[1]),
                         part(("call", "x", thing, X)), part(names=thing), part(("let", "y", ("same", T, thing))),
                         part((thing, "x", I)), part(("put", thing, I)), part(("try", (), thing, ()))):
                self.check_part(reference.part_ok(SIDE, FACES, near), near)
            for near in (partner(thing), helper(thing), partner(("say", thing)), helper(("answer", thing)),
                         partner(names=thing), (CELLS, thing, partner()[2]), (CELLS, (NAMES, thing), partner()[2]),
                         partner()[:2] + (thing,)):
                self.check_partner(reference.partner_ok(SIDE, FACES, near), near)


class Asking(Base):

    def test_sizes(self):
        self.assertEqual(asked(self, size_of, part()), 0)
        self.assertEqual(asked(self, size_of, partner()), 0)
        self.assertEqual(size_of(part(("let", "x", I))), 1)
        deep = ("if", NO, (("let", "x", I), ("while", NO, (("let", "x", I),))), (("try", (), "w", (("fail", BAD),)),))
        self.assertEqual(asked(self, size_of, part(deep, deep)), 12)
        self.assertEqual(size_of(partner(deep)), 6)
        self.assertEqual(size_of(helper(deep)), 6)
        bodies = helper(deep)
        self.assertEqual(size_of((CELLS, (NAMES, (deep, ("say", "no"))), bodies[2])), 13)

    def test_faces_that_are_called(self):
        self.assertEqual(asked(self, faces_of, part()), ())
        self.assertEqual(asked(self, faces_of, part(("call", "x", "tell", Y), ("call", "y", "ask", X))), ("ask", "tell"))
        self.assertEqual(faces_of(part(("call", "x", "tell", Y), ("while", NO, (("call", "x", "tell", Y),)))), ("tell",))
        self.assertEqual(faces_of(part(("try", (), "w", (("if", NO, (), (("call", "y", "ask", X),)),)))), ("ask",))
        both = partner(("call", "t", "new", X))[:2] + helper(("call", "x", "flip", X), face=1)[2:]
        self.assertEqual(asked(self, faces_of, both), ("flip", "new"))

    def test_against_their_texts(self):
        for seed in range(60):
            side = make.side(seed, 4, 3, 4)
            faces = faces_for(seed, side)
            for thing in (make.part(seed, side, faces), make.partner(seed, side, faces)):
                told = repr(thing)
                names = [row[0] for rows in faces for row in rows]
                used = [name for name in names if any([f"'call', '{own}', '{name}'" in told for own in names_in(thing)])]
                self.assertEqual(faces_of(thing), tuple(sorted(used)))
                self.assertEqual("catch" in powers_of(thing), "('try', " in told)
                self.assertEqual("same" in powers_of(thing), "('same', (" in told)
                heads = ("let", "put", "call", "make", "look", "if", "while", "try", "answer", "fail", "say")
                self.assertEqual(size_of(thing), sum([told.count(f"('{head}', ") for head in heads]) - clashes(thing, heads))


def names_in(program):
    """The NAMES of all variables of a program."""
    bodies = program[1] if len(program) == 2 else (program[1],) + program[2]
    return sorted({name for body in bodies for name, _ in body[0]})


def clashes(program, heads):
    """How many variables and cells have a NAME that begins STATEMENTS, too."""
    bodies = program[1] if len(program) == 2 else (program[1],) + program[2]
    names = [row[0] for body in bodies for row in body[0]] + [row[0] for row in program[0]]
    return len([name for name in names if name in heads])


class AtTheBounds(Base):

    def test_wide_and_deep(self):
        for seed in range(3):
            side = make.full_side(seed)
            faces = (tuple([(name, "aa", "bb") for name in "abcd"]), tuple([(name, "bb", "aa") for name in "efg"]))
            names = tuple([("given", "aa")] + [("v" + letter, "truth") for letter in "abcdefgh"])
            block = ()
            for _ in range(8):
                block = (("if", ("name", "va"), block, ()), *[("let", "vb", ("name", "vc"))] * 6)
            self.check_part(True, ((), tuple([(names, block)] * 4)), side, faces)
            self.assertEqual(size_of(((), tuple([(names, block)] * 4))), 4 * 8 * 7)

    def test_far_deeper_than_calls_within_calls_can_go(self):
        block = ()
        for _ in range(5000):
            block = (("if", NO, (), block),)
        thing = part(*block)
        self.assertIs(is_part(SIDE, FACES, thing), True)
        self.assertEqual(size_of(thing), 5000)
        self.assertEqual(faces_of(thing), ())
        self.assertEqual(powers_of(thing), ("keep",))
        inner = (("let", "x", NO),)
        for _ in range(5000):
            inner = (("while", NO, inner),)
        self.assertIs(is_part(SIDE, FACES, part(*inner)), False)

    def test_terms_that_were_returned_are_expressions(self):
        side = chain(26)
        faces = ((("f", "num", "truth"),), ())
        found = filled(term(side, "num", "a", "b"), GIVEN)
        self.check_part(True, ((), (((("given", "num"),), (("answer", found),)),)), side, faces)


if __name__ == "__main__":
    unittest.main()
