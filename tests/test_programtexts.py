"""Texts of programs [21]."""

import random
import unittest

from besidealone.programs import is_part, is_partner
from besidealone.programtexts import read_part, read_partner, show_part, show_partner
from besidealone.tables import faces, right_faces
from tests import make, reference_programtexts
from tests.helpers import ANY, assert_line, assert_wrong, asked

SIDE = ((("bit", ("i", "o")), ("truth", ("no", "yes")), ("word", ("bad", "off"))),
        (("both", ("bit", "bit"), "bit", ("i", "o", "o", "o")), ("no", ("truth",), "truth", ("yes", "no")),
         ("on", ("bit",), "truth", ("yes", "no"))), ("again", "catch", "keep", "same"))
FACES = ((("flip", "bit", "bit"), ("new", "truth", "thing"), ("use", "thing", "bit")), (("ask", "bit", "truth"), ("beg", "bit", "bit")))
PART = """cell aa word off
cell last bit o
cell t thing
body flip
  var b bit
  var w word
  var y truth
  try
    call y ask !both given b
    while !no y
      let b given
    end
  catch w
    fail w
  end
  if !on b
    put last b
  else
    if y
    else
      fail word.bad
    end
  end
  answer @last
end
body new
  var x thing
  make x given
  if = x x
    put t x
    put aa word.bad
  else
  end
  answer @t
end
body use
  var b bit
  look b given
  answer b
end"""
PARTNER = """cell n truth no
main
  var t thing
  var u thing
  var w word
  try
    call t new @n
  catch w
    say no
  end
  call u new truth.yes
  if = t u
    say yes
  else
    fail w
  end
end
body ask
  var b bit
  call b flip given
  put n truth.yes
  answer !on b
end
body beg
  answer bit.i
end"""
SHOW = {"part": show_part, "partner": show_partner}
READ = {"part": read_part, "partner": read_partner}
IS = {"part": is_part, "partner": is_partner}


def weak(*powers):
    return SIDE[:2] + (powers,)


class Programtexts(unittest.TestCase):

    def check(self, sort, text, side=SIDE, told=FACES):
        """A text is read, or not, as the reference says; returns the line at which it is bad, or None."""
        want = reference_programtexts.read(side, told, text, sort == "part")
        if isinstance(want, int):
            assert_line(self, want, READ[sort], side, told, text)
            return want
        found = asked(self, READ[sort], side, told, text)
        self.assertEqual(found, want)
        self.assertTrue(IS[sort](side, told, found))
        return None

    def test_line_by_line(self):
        for sort, text in (("part", PART), ("partner", PARTNER)):
            program = asked(self, READ[sort], SIDE, FACES, text)
            self.assertEqual(asked(self, SHOW[sort], SIDE, FACES, program).split("\n"), text.split("\n"))
            self.assertIsNone(self.check(sort, text))

    def test_the_program_that_is_read(self):
        part = read_part(SIDE, FACES, PART)
        self.assertEqual(part[0], (("aa", "word", "off"), ("last", "bit", "o"), ("t", "thing", "")))
        names, statements = part[1][0]
        self.assertEqual(names, (("b", "bit"), ("given", "bit"), ("w", "word"), ("y", "truth")))
        call = ("call", "y", "ask", ("do", "both", (("name", "given"), ("name", "b"))))
        loop = ("while", ("do", "no", (("name", "y"),)), (("let", "b", ("name", "given")),))
        self.assertEqual(statements[0], ("try", (call, loop), "w", (("fail", ("name", "w")),)))
        self.assertEqual(statements[1][3], (("if", ("name", "y"), (), (("fail", ("raw", "word", "bad")),)),))
        self.assertEqual(part[1][1][1][1][1], ("same", ("name", "x"), ("name", "x")))
        partner = read_partner(SIDE, FACES, PARTNER)
        self.assertEqual(partner[1][0], (("t", "thing"), ("u", "thing"), ("w", "word")))
        self.assertEqual(partner[1][1][1], ("call", "u", "new", ("raw", "truth", "yes")))

    def test_blanks_and_lines_without_words(self):
        for sort, text in (("part", PART), ("partner", PARTNER)):
            want = READ[sort](SIDE, FACES, text)
            lines = [line.strip() for line in text.split("\n")]
            for new in ("\n".join(lines), "\n\n" + text.replace("\n", "\n  \n") + "\n\n \n", text.replace(" ", "   "),
                        "\n".join([line + "  " for line in lines])):
                self.assertEqual(asked(self, READ[sort], SIDE, FACES, new), want)

    def test_cells_and_variables_in_any_order(self):
        lines = PART.split("\n")
        for order in ((2, 0, 1), (1, 2, 0), (2, 1, 0)):
            new = [lines[at] for at in order] + lines[3:]
            self.assertEqual(read_part(SIDE, FACES, "\n".join(new)), read_part(SIDE, FACES, PART))
            new = lines[:4] + [lines[4 + at] for at in order] + lines[7:]
            self.assertEqual(read_part(SIDE, FACES, "\n".join(new)), read_part(SIDE, FACES, PART))

    def test_wrong_in_this_order_ahead_of_no_text(self):
        for read in (read_part, read_partner):
            for thing in ANY:
                assert_wrong(self, 0, read, thing, thing, thing)
                assert_wrong(self, 0, read, thing, FACES, "junk")
                assert_wrong(self, 1, read, SIDE, thing, thing)
                assert_wrong(self, 1, read, SIDE, thing, "junk")
                if not isinstance(thing, str):
                    assert_wrong(self, 2, read, SIDE, FACES, thing)
            assert_wrong(self, 1, read, SIDE, ((("flip", "num", "bit"),), ()), "junk")
            assert_wrong(self, 1, read, SIDE, (FACES[0], (("ask", "thing", "bit"),)), "junk")

    def test_strings_that_are_no_texts(self):
        for thing in ANY + ("\n", " \n ", "end", "main", "body", "body flip", "cell", "\n\nx"):
            if isinstance(thing, str):
                for sort in READ:
                    line = self.check(sort, thing)
                    self.assertIsNotNone(line)
                    if not thing.strip():
                        self.assertEqual(line, thing.count("\n") + 1)

    def test_lines_out_twice_exchanged_cut_off(self):
        told = {True: 0, False: 0}
        for sort, text in (("part", PART), ("partner", PARTNER)):
            lines = text.split("\n")
            for at in range(len(lines)):
                for new in (lines[:at] + lines[at + 1:], lines[:at + 1] + lines[at:], lines[:at], lines[:at] + ["", ""]):
                    told[self.check(sort, "\n".join(new)) is None] += 1
                for to in range(at):
                    new = list(lines)
                    new[at], new[to] = new[to], new[at]
                    told[self.check(sort, "\n".join(new)) is None] += 1
                    new = list(lines)
                    new.insert(to, new.pop(at))
                    told[self.check(sort, "\n".join(new)) is None] += 1
            self.assertEqual(self.check(sort, "\n".join(lines[:-1])), len(lines) - 1)
            self.assertEqual(self.check(sort, text + "\n\nend"), len(lines) + 1)
        self.assertGreater(told[True], 30)
        self.assertGreater(told[False], 1000)

    def test_words_exchanged_out_and_more(self):
        words = ("", "x", "bit", "thing", "given", "@last", "last", "!on", "!both", "!no", "=", "@t", "bit.i", "bit.u",
                 "bit.i.o", "bit.", ".i", ".", "@", "!", "word.bad", "truth.no", "call", "end", "else", "catch", "say",
                 "yes", "Given", "w", "y", "b", "flip", "ask", "try", "if", "var", "cell", "main", "abcdefghijklm")
        told = {True: 0, False: 0}
        for sort, text in (("part", PART), ("partner", PARTNER)):
            lines = [line.split() for line in text.split("\n")]
            for at, row in enumerate(lines):
                for place in range(len(row) + 1):
                    for word in words:
                        for new in (row[:place] + [word] + row[place + 1:], row[:place] + [word] + row[place:]):
                            new = lines[:at] + [new] + lines[at + 1:]
                            told[self.check(sort, "\n".join([" ".join(own) for own in new])) is None] += 1
        self.assertGreater(told[True], 100)
        self.assertGreater(told[False], 5000)

    def test_sides_with_fewer_powers(self):
        lines = PART.split("\n")
        self.assertEqual(self.check("part", PART, weak("catch", "same")), 0)
        self.assertEqual(self.check("part", PART, weak("again", "keep", "same")), lines.index("  try"))
        self.assertEqual(self.check("part", PART, weak("again", "catch", "keep")), lines.index("  if = x x"))
        self.assertIsNone(self.check("part", PART, weak("catch", "keep", "same")))
        lines = PARTNER.split("\n")
        self.assertEqual(self.check("partner", PARTNER, weak("catch", "keep", "same")), lines.index("  call b flip given"))
        self.assertEqual(self.check("partner", PARTNER, weak("again", "keep")), lines.index("  try"))

    def test_heads_and_bodies(self):
        one = ((("f", "bit", "bit"), ("g", "bit", "bit")), ())
        good = "body f\nend\nbody g\nend"
        self.assertIsNone(self.check("part", good, SIDE, one))
        for line, text in ((0, "body g\nend\nbody f\nend"), (2, "body f\nend\nbody f\nend"), (2, "body f\nend"),
                           (0, "body f x\nend\nbody g\nend"), (0, "body\nend"), (0, "main\nend\n" + good),
                           (4, good + "\nbody g\nend"), (1, "body f\nbody g\nend\nend"), (4, good + "\nmain\nend"),
                           (2, "\n\nbody x"), (1, "body f\nend x\nbody g\nend")):
            self.assertEqual(self.check("part", text, SIDE, one), line)
        for line, text in ((0, good), (0, "body f\nend"), (2, "main\nend\nmain\nend"), (None, "main\nend"),
                           (0, "main x\nend"), (2, "main\nend\nbody f\nend"), (1, "main"), (2, "main\n")):
            self.assertEqual(self.check("partner", text, SIDE, one), line)

    def test_long_expressions(self):
        for many, is_good in ((58, True), (59, True), (60, False), (61, False), (400, False)):
            deep = "!no " * many + "truth.no"
            for rows in (["if " + deep, "else", "end"], ["while " + deep, "end"], ["let y " + deep], ["put n " + deep],
                         ["make x " + deep], ["answer " + deep], ["call y ask " + deep]):
                text = "\n".join(["cell n truth no", "body f", "var x thing", "var y truth"] + rows + ["end"])
                told = ((("f", "bit", "truth"),), (("ask", "truth", "truth"),))
                self.assertEqual(self.check("part", text, SIDE, told), None if is_good else 4)
        wide = "!both " * 29 + "bit.i " * 30
        self.assertIsNone(self.check("part", "body f\nanswer " + wide + "\nend", SIDE, ((("f", "bit", "bit"),), ())))
        wide = "!both " * 30 + "bit.i " * 31
        self.assertEqual(self.check("part", "body f\nanswer " + wide + "\nend", SIDE, ((("f", "bit", "bit"),), ())), 1)

    def test_very_deep_blocks(self):
        deep = ()
        for _ in range(3000):
            deep = (("if", ("raw", "truth", "no"), deep, ()),)
        part = ((), (((("given", "bit"),), deep),))
        told = ((("f", "bit", "bit"),), ())
        text = show_part(SIDE, told, part)
        self.assertEqual(text.split("\n")[3000], "  " * 3000 + "if truth.no")
        self.assertEqual(show_part(SIDE, told, read_part(SIDE, told, text)), text)

    def test_blocks_in_blocks(self):
        text = """body f
  var w word
  try
    while truth.no
      try
        if truth.yes
          try
            fail w
          catch w
            fail word.off
          end
        else
          while truth.no
            answer given
          end
        end
      catch w
      end
    end
  catch w
    if truth.no
    else
      answer given
    end
  end
end"""
        told = ((("f", "bit", "bit"),), ())
        part = read_part(SIDE, told, text)
        self.assertEqual(show_part(SIDE, told, part), text)
        flat = "\n".join([line.strip() for line in text.split("\n")])
        self.assertEqual(read_part(SIDE, told, flat), part)

    def test_there_and_back(self):
        for seed in range(150):
            left, right = make.side(seed, 4), make.side(seed + 5000, 4)
            table = make.table(seed, left, right)
            for own, told in ((left, faces(table)), (right, right_faces(table))):
                for part in (make.part(seed, own, told), make.lively_part(seed, own, told)):
                    self.assertEqual(read_part(own, told, asked(self, show_part, own, told, part)), part)
                for partner in (make.partner(seed, own, told), make.lively_partner(seed, own, told)):
                    self.assertEqual(read_partner(own, told, asked(self, show_partner, own, told, partner)), partner)

    def test_programs_with_many_things_changed(self):
        source = random.Random(3)
        for seed in range(400):
            own = make.side(seed, 4)
            told = faces(make.table(seed, own, own))
            sort = source.choice(sorted(READ))
            program = (make.lively_part if sort == "part" else make.lively_partner)(seed, own, told)
            lines = SHOW[sort](own, told, program).split("\n")
            for _ in range(source.randint(1, 3)):
                at, to = source.randrange(len(lines)), source.randrange(len(lines))
                words = lines[at].split(" ")
                words[source.randrange(len(words))] = source.choice(words + lines[to].split(" ") + ["given", ""])
                lines[at] = " ".join(words)
                if source.random() < 0.3:
                    lines.insert(to, lines.pop(at))
            self.check(sort, "\n".join(lines), own, told)


if __name__ == "__main__":
    unittest.main()
