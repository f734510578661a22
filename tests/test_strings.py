"""Plain values as a program writes them (foretask/strings.py)."""

import unittest

from foretask.parsing import parse_expression
from foretask.strings import quoted, shown_value
from foretask.words import tokens

CHARACTERS = "\n" + "".join(chr(number) for number in range(32, 127) if number != 37)


class TestQuoted(unittest.TestCase):
    def test_example(self):
        self.assertEqual(quoted("a\"b"), '"a\\"b"')

    def test_escapes(self):
        for characters, literal in (
            ("", '""'), ("a", '"a"'), ('"', '"\\""'), ("\\", '"\\\\"'), ("\n", '"\\n"'), ("\\n", '"\\\\n"'),
            ('\\"', '"\\\\\\""'), ("a\nb\n", '"a\\nb\\n"'), ("it's # no remark", '"it\'s # no remark"'),
            ('""', '"\\"\\""'), ("n", '"n"'), (" ", '" "'),
        ):
            with self.subTest(characters=characters):
                self.assertEqual(quoted(characters), literal)

    def test_every_other_character_stands_for_itself(self):
        for character in CHARACTERS:
            if character not in '"\\\n':
                self.assertEqual(quoted(character), '"' + character + '"')

    def test_any_length(self):
        self.assertEqual(quoted("a" * 250), '"' + "a" * 250 + '"')
        self.assertEqual(quoted('"' * 150), '"' + '\\"' * 150 + '"')

    def test_is_read_back(self):
        for characters in ("", "a", CHARACTERS, '"' * 100, "\\" * 100, "\n" * 100, '\\"\n' * 33):
            with self.subTest(characters=characters):
                self.assertEqual(tokens(quoted(characters))[0][:2], ("text", characters))
                self.assertEqual(len(tokens(quoted(characters))), 2)


class TestShownValue(unittest.TestCase):
    def test_every_kind(self):
        for value, shown in (
            (("none",), "none"), (("bool", True), "true"), (("bool", False), "false"), (("int", 0), "0"),
            (("int", 1), "1"), (("int", 305), "305"), (("int", -1), "-1"), (("int", -305), "-305"),
            (("int", 10 ** 60 - 1), "9" * 60), (("int", 1 - 10 ** 60), "-" + "9" * 60),
            (("text", ""), '""'), (("text", "abc"), '"abc"'), (("text", '"'), '"\\""'), (("text", "\\"), '"\\\\"'),
            (("text", "a\nb"), '"a\\nb"'), (("text", "none"), '"none"'), (("text", "1"), '"1"'),
            (("text", "x" * 200), '"' + "x" * 200 + '"'), (("text", "\n" * 101), '"' + "\\n" * 101 + '"'),
        ):
            with self.subTest(value=value):
                self.assertEqual(shown_value(value), shown)

    def test_is_read_back(self):
        for value in (("none",), ("bool", True), ("bool", False), ("int", 0), ("int", 12), ("text", ""),
                      ("text", 'a\n"\\')):
            with self.subTest(value=value):
                self.assertEqual(parse_expression(shown_value(value)), ("const", value))
        self.assertEqual([token[:2] for token in tokens(shown_value(("int", -7)))],
                         [("sign", "-"), ("number", 7), ("end", "")])


if __name__ == "__main__":
    unittest.main()
