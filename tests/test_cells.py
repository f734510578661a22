"""Cells of objects (foretask/cells.py), [c5]."""

import unittest

from foretask.cells import array_size, field_cell, item_cell
from foretask.parsing import parse
from foretask.program import compile_tree

RECORDS = (("point", ("x", "y", "name")), ("empty", ()), ("other", ("y", "z")))
ONE_OF_EACH = (("none",), ("bool", True), ("bool", False), ("int", 0), ("int", 1), ("text", ""), ("text", "1"),
               ("object", (), 1))


class TestFieldCell(unittest.TestCase):
    def test_fields(self):
        for held, name, cell in (("point", "x", 1), ("point", "y", 2), ("point", "name", 3), ("other", "y", 1),
                                 ("other", "z", 2)):
            with self.subTest(held=held, name=name):
                self.assertEqual(field_cell(RECORDS, ("text", held), name), ("ok", cell))

    def test_other_fields(self):
        for held, name in (("point", "z"), ("point", "point"), ("empty", "x"), ("other", "x"), ("other", "Y"), ("x", "x"),
                           ("", "x"), ("nobody", "x"), ("Point", "x")):
            with self.subTest(held=held, name=name):
                self.assertEqual(field_cell(RECORDS, ("text", held), name), ("error", "field"))

    def test_what_is_no_record(self):
        for held in ONE_OF_EACH:
            self.assertEqual(field_cell(RECORDS, held, "x"), ("error", "field"))
        self.assertEqual(field_cell((), ("text", "point"), "x"), ("error", "field"))

    def test_records_of_a_program(self):
        program = compile_tree(parse("record a(b); record c(d, e);"))
        self.assertEqual(field_cell(program.records, ("text", "c"), "e"), ("ok", 2))
        self.assertEqual(field_cell(program.records, ("text", "a"), "e"), ("error", "field"))


class TestItemCell(unittest.TestCase):
    def check(self, held, at, wanted):
        with self.subTest(held=held, at=at):
            self.assertEqual(item_cell(("int", held), ("int", at)), wanted)

    def test_bounds(self):
        for held in (1, 2, 7, 40):
            self.check(held, -1, ("error", "index"))
            self.check(held, 0, ("ok", 1))
            self.check(held, held - 1, ("ok", held))
            self.check(held, held, ("error", "index"))
            self.check(held, held + 1, ("error", "index"))
        self.check(7, 3, ("ok", 4))
        self.check(7, -7, ("error", "index"))
        self.check(7, 10 ** 59, ("error", "index"))

    def test_no_items(self):
        for at in (-1, 0, 1):
            self.check(0, at, ("error", "index"))

    def test_the_number_is_an_integer(self):
        self.assertIs(item_cell(("int", 2), ("int", 0))[1].__class__, int)

    def test_other_kinds(self):
        for held in ONE_OF_EACH:
            for at in ONE_OF_EACH:
                if held[0] != "int" or at[0] != "int":
                    with self.subTest(held=held, at=at):
                        self.assertEqual(item_cell(held, at), ("error", "kind"))
        self.assertEqual(item_cell(("text", "point"), ("int", -1)), ("error", "kind"))
        self.assertEqual(item_cell(("int", 3), ("bool", True)), ("error", "kind"))
        self.assertEqual(item_cell(("bool", True), ("int", 0)), ("error", "kind"))


class TestArraySize(unittest.TestCase):
    def test_bounds(self):
        for size in (0, 1, 20, 39, 40):
            self.assertEqual(array_size(("int", size)), ("ok", ("int", size)))
        for size in (-1, -40, 41, 10 ** 59, -10 ** 59):
            self.assertEqual(array_size(("int", size)), ("error", "size"))

    def test_other_kinds(self):
        for value in ONE_OF_EACH:
            if value[0] != "int":
                self.assertEqual(array_size(value), ("error", "kind"))
        self.assertEqual(array_size(("text", "a" * 50)), ("error", "kind"))


if __name__ == "__main__":
    unittest.main()
