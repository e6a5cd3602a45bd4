"""The interface: each function is defined in its file, and takes these arguments."""

import ast
import importlib
import inspect
import os
import unittest

FOLDER = os.path.join(os.path.dirname(os.path.dirname(os.path.abspath(__file__))), "besidealone")
TOLD = {
    "forms": ["is_integer(thing)", "is_name(thing)", "is_lot(names, thing)"],
    "sides": ["is_side(thing)", "has(side, power)", "kinds_of(side)", "raws_of(side, kind)", "rows_of(side, kinds)",
              "operation(side, name)", "result_of(side, name, raws)", "with_powers(side, powers)"],
    "sidetexts": ["show_side(side)", "read_side(text)"],
    "likeness": ["classes(side, kind)", "class_of(side, kind, raw)", "likeness(side)", "are_alike(side, kind, one, other)",
                 "is_likeness(side, thing)"],
    "telling": ["is_term(side, kind, thing)", "gives(side, kind, term)", "value_of(side, term, raw)", "filled(term, expression)",
                "term(side, kind, one, other)", "choice(side, kind, raw)"],
    "tables": ["is_faces(side, thing)", "is_table(left, right, thing)", "is_passable(table)", "is_level(left, right, table)",
               "twice(left, table)", "faces(table)", "right_faces(table)", "ways_of(table)", "export_of(table, name)",
               "import_of(table, name)", "let_by(side, way)", "met(way)", "led(side, way, raw)", "out_word(left, table, word)",
               "into_word(right, table, word)", "with_modes(table, modes)", "with_way(table, face, place, way)"],
    "tabletexts": ["show_table(left, right, table)", "read_table(left, right, text)"],
    "programs": ["is_part(side, faces, thing)", "is_partner(side, faces, thing)", "powers_of(program)", "faces_of(program)",
                 "size_of(program)"],
    "programtexts": ["show_part(side, faces, part)", "show_partner(side, faces, partner)", "read_part(side, faces, text)",
                     "read_partner(side, faces, text)"],
    "alone": ["run_alone(left, table, part, partner, most)"],
    "glue": ["asked(left, right, table, partner, most)", "came(left, right, table, face, kept)"],
    "beside": ["run_beside(left, right, table, part, partner, most)"],
    "relations": ["paper(left, right, table, where, one, other)", "is_paper(left, right, table, where, one, other, thing)"],
    "tight": ["tight_faults(left, right, table)", "is_tight(left, right, table)", "split(left, right, way)",
              "split_words(left, right, table)", "split_again(left, right, table)"],
    "breaks": ["parting(left, right, table, where, one, other, partner, most)", "breaking(left, right, table, fault)",
               "is_break(left, right, table, thing)"],
    "faithful": ["faithful_faults(left, right, table)", "is_faithful(left, right, table)", "joined(left, right, way)",
                 "joined_words(left, right, table)", "missed(left, way)", "missed_words(left, right, table, face)"],
    "losses": ["losing(left, right, table, fault)", "is_loss(left, right, table, thing)"],
    "back": ["replaying(left, table, log)", "brought_back(left, right, table, one, other, partner, most)"],
    "over": ["led_over(left, right, table, one, other, partner, most)"],
    "compared": ["compared(left, right, table, where, one, other)", "lots(left, right, table, where, parts)",
                 "is_compared(left, right, table, where, one, other, thing)"],
    "mends": ["mode_mends(left, right, table, wish)", "mended_out(left, right, way, wish)", "mended_into(left, right, way)",
              "is_mended_out(left, right, way, wish, thing)", "is_mended_into(left, right, way, thing)"],
    "chains": ["do_fit(left, middle, right, one, other)", "put_together(left, middle, right, one, other)",
               "lost_between(left, middle, right, one, other)"],
    "books": ["is_book(thing)", "is_safe(book)"],
    "heaps": ["new_heaps()", "can_come(heaps, thing)", "is_wrong_row(book, thing)", "behind(book, heaps, event)", "wrong_row(book)"],
    "heapruns": ["is_collector(thing)", "run_on_heaps(left, right, table, part, partner, book, collector, most)"],
}
CLASSES = {
    "house": ("House(left, right, table)", ["sides()", "table()", "parts()", "partners(where)", "twin()", "put_part(name, part)",
                                            "put_partner(where, name, partner)", "drop_part(name)", "drop_partner(where, name)", "exchange(table)",
                                            "undo()", "run(where, part, partner, most)", "ends(where, most)", "parted(where, most)", "faults()",
                                            "compare(where, one, other)", "__eq__(other)"]),
    "desk": ("Desk(left, right, table)", ["house()", "execute(text)"]),
}


class Interface(unittest.TestCase):

    def test_functions(self):
        for module, told in TOLD.items():
            with open(os.path.join(FOLDER, module + ".py"), encoding="utf-8") as file:
                tree = ast.parse(file.read())
            defined = [node.name for node in tree.body if isinstance(node, ast.FunctionDef)]
            found = importlib.import_module("besidealone." + module)
            for line in told:
                name = line.split("(")[0]
                self.assertIn(name, defined)
                self.assertEqual(name + str(inspect.signature(getattr(found, name))), line)

    def test_classes(self):
        for module, (line, methods) in CLASSES.items():
            found = getattr(importlib.import_module("besidealone." + module), line.split("(")[0])
            self.assertEqual(found.__name__ + str(inspect.signature(found)), line)
            self.assertEqual(found.__module__, "besidealone." + module)
            for told in methods:
                method = vars(found)[told.split("(")[0]]
                names = list(inspect.signature(method).parameters)
                self.assertEqual(names[0], "self")
                self.assertEqual(f"{told.split('(')[0]}({', '.join(names[1:])})", told)

    def test_all_of_the_document(self):
        # errors, and all modules up to the desk.
        files = {name[:-3] for name in os.listdir(FOLDER) if name.endswith(".py")}
        self.assertTrue(set(TOLD) | set(CLASSES) | {"errors", "__init__"} <= files)
        self.assertEqual(len(TOLD) + len(CLASSES), 27)


if __name__ == "__main__":
    unittest.main()
