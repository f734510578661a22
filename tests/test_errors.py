"""[c17]: the classes of errors."""

import unittest

from foretask.errors import BadImage, ForetaskError, NameFault, NoSuchStep, TextFault, UnknownVariable
from foretask.parsing import parse, parse_expression
from foretask.program import compile_tree
from foretask.words import tokens

CLASSES = (TextFault, NameFault, UnknownVariable, NoSuchStep, BadImage)


class TestErrors(unittest.TestCase):
    def test_all_stand_under_one_base(self):
        self.assertTrue(issubclass(ForetaskError, ValueError))
        for one in CLASSES:
            with self.subTest(one=one.__name__):
                self.assertTrue(issubclass(one, ForetaskError))
                self.assertTrue(issubclass(one, ValueError))

    def test_none_stands_under_another_one(self):
        for one in CLASSES:
            self.assertFalse(issubclass(ForetaskError, one))
            for other in CLASSES:
                if one is not other:
                    with self.subTest(one=one.__name__, other=other.__name__):
                        self.assertFalse(issubclass(one, other))

    def test_defined_in_their_file(self):
        for one in CLASSES + (ForetaskError,):
            self.assertEqual(one.__module__, "foretask.errors")

    def test_text_fault(self):
        error = TextFault(3, 14, "expected ;")
        self.assertEqual((error.line, error.column, error.reason), (3, 14, "expected ;"))
        self.assertEqual(sorted(vars(error)), ["column", "line", "reason"])

    def test_name_fault(self):
        error = NameFault(0, "program too long")
        self.assertEqual((error.line, error.reason), (0, "program too long"))
        self.assertEqual(sorted(vars(error)), ["line", "reason"])

    def test_unknown_variable(self):
        error = UnknownVariable("total")
        self.assertEqual(error.name, "total")
        self.assertEqual(sorted(vars(error)), ["name"])

    def test_no_such_step(self):
        error = NoSuchStep(17)
        self.assertEqual(error.number, 17)
        self.assertEqual(sorted(vars(error)), ["number"])

    def test_bad_image(self):
        error = BadImage(0)
        self.assertEqual(error.place, 0)
        self.assertEqual(sorted(vars(error)), ["place"])

    def test_a_message_can_be_shown(self):
        for error in (TextFault(1, 2, "x"), NameFault(1, "x"), UnknownVariable("x"), NoSuchStep(1), BadImage(1)):
            self.assertIsInstance(str(error), str)

    def test_raised_errors_are_of_the_class_told(self):
        cases = (
            (tokens, "$", TextFault), (parse, "x", TextFault), (parse_expression, "", TextFault),
            (compile_tree, ("program", (), (), (("break", 1),)), NameFault),
        )
        for function, argument, told in cases:
            with self.subTest(function=function.__name__):
                with self.assertRaises(ForetaskError) as caught:
                    function(argument)
                self.assertIs(caught.exception.__class__, told)
                with self.assertRaises(ValueError):
                    function(argument)


if __name__ == "__main__":
    unittest.main()
