"""[w1] to [w7]: cutting a text into tokens."""

import unittest

from foretask.words import tokens
from tests.support import Case

KEYWORDS = (
    "record proc var if else while for to return throw try catch print read break ahead none true false and or not"
    " mod new array size"
).split()
SIGNS = "<= >= == != ( ) { } [ ] , ; . = + - * / & < >".split()
LETTERS = "ABCDEFGHIJKLMNOPQRSTUVWXYZabcdefghijklmnopqrstuvwxyz"
DIGITS = "0123456789"
# All characters of a program text but the newline.
CHARACTERS = "".join(chr(number) for number in range(32, 127) if number != 37)


def kinds(text):
    return [token[:2] for token in tokens(text)[:-1]]


class TestTokens(Case):
    def test_example(self):
        self.assertEqual(
            tokens("x <= 07 # seven"),
            (("name", "x", 1, 1), ("sign", "<=", 1, 3), ("number", 7, 1, 6), ("end", "", 1, 16)),
        )

    def test_every_kind_with_its_place(self):
        self.assertEqual(
            tokens('ab var 12 "c" ;'),
            (
                ("name", "ab", 1, 1), ("word", "var", 1, 4), ("number", 12, 1, 8), ("text", "c", 1, 11),
                ("sign", ";", 1, 15), ("end", "", 1, 16),
            ),
        )

    def test_lines_and_columns(self):
        self.assertEqual(
            tokens('a\n  b # c d\n\n   "e\\n" f\n1'),
            (
                ("name", "a", 1, 1), ("name", "b", 2, 3), ("text", "e\n", 4, 4), ("name", "f", 4, 10),
                ("number", 1, 5, 1), ("end", "", 5, 2),
            ),
        )

    def test_result_is_a_tuple_of_tuples(self):
        found = tokens("a 1")
        self.assertIsInstance(found, tuple)
        for token in found:
            self.assertIsInstance(token, tuple)

    def test_the_end(self):
        for text, line, column in (
            ("", 1, 1), (" ", 1, 2), ("\n", 2, 1), ("\n\n  ", 3, 3), ("# x", 1, 4), ("#", 1, 2), ("# x\n", 2, 1),
            ("a", 1, 2), ("a\n", 2, 1), ('"\\n"', 1, 5),
        ):
            with self.subTest(text=text):
                self.assertEqual(tokens(text)[-1], ("end", "", line, column))

    def test_only_what_separates(self):
        for text in ("", " ", "   ", "\n", " \n \n", "#", "# a b 1 ;", "#\n#\n"):
            with self.subTest(text=text):
                self.assertEqual(len(tokens(text)), 1)


class TestSeparators(Case):
    def test_separated_by_nothing(self):
        self.assertEqual(
            kinds('a<1"b""c"(x1)2.3=d"e"f'),
            [
                ("name", "a"), ("sign", "<"), ("number", 1), ("text", "b"), ("text", "c"), ("sign", "("),
                ("name", "x1"), ("sign", ")"), ("number", 2), ("sign", "."), ("number", 3), ("sign", "="),
                ("name", "d"), ("text", "e"), ("name", "f"),
            ],
        )

    def test_columns_without_separators(self):
        self.assertEqual(
            tokens('a<1"b"if'),
            (
                ("name", "a", 1, 1), ("sign", "<", 1, 2), ("number", 1, 1, 3), ("text", "b", 1, 4),
                ("word", "if", 1, 7), ("end", "", 1, 9),
            ),
        )

    def test_separated_by_spaces_newlines_and_remarks(self):
        for between in (" ", "   ", "\n", " \n\n ", "#\n", "# x y\n", " # \"\n# $ _ ! '\n"):
            with self.subTest(between=between):
                text = between.join(("a", "if", "1", '"b"', "=", "=", "c"))
                self.assertEqual(
                    kinds(text),
                    [
                        ("name", "a"), ("word", "if"), ("number", 1), ("text", "b"), ("sign", "="), ("sign", "="),
                        ("name", "c"),
                    ],
                )

    def test_a_remark_ends_with_its_line(self):
        self.assertEqual(tokens("a # b\nc"), (("name", "a", 1, 1), ("name", "c", 2, 1), ("end", "", 2, 2)))
        self.assertEqual(tokens("a#b"), (("name", "a", 1, 1), ("end", "", 1, 4)))
        self.assertEqual(tokens("1#b"), (("number", 1, 1, 1), ("end", "", 1, 4)))

    def test_a_remark_may_contain_everything(self):
        self.assertEqual(tokens("#" + CHARACTERS)[-1], ("end", "", 1, len(CHARACTERS) + 2))

    def test_no_remark_in_a_string(self):
        self.assertEqual(kinds('"a # b" c'), [("text", "a # b"), ("name", "c")])


class TestNames(Case):
    def test_letters_digits_and_underscores(self):
        for name in ("a", "Z", "a1", "a_", "A_b_9", "x0123456789", "e__f", "iff", "If", "VAR", "var1", "var_", "toto",
                     "end", "expr", "catching", "newr", "int"):
            with self.subTest(name=name):
                self.assertEqual(tokens(name), (("name", name, 1, 1), ("end", "", 1, len(name) + 1)))

    def test_every_letter_begins_a_name(self):
        for letter in LETTERS:
            self.assertEqual(kinds(letter + "_"), [("name", letter + "_")])

    def test_every_character_of_a_name(self):
        for character in LETTERS + DIGITS + "_":
            self.assertEqual(kinds("q" + character), [("name", "q" + character)])

    def test_every_keyword(self):
        self.assertEqual(len(KEYWORDS), 26)
        for word in KEYWORDS:
            with self.subTest(word=word):
                self.assertEqual(tokens(word), (("word", word, 1, 1), ("end", "", 1, len(word) + 1)))
                self.assertEqual(kinds(word + "x"), [("name", word + "x")])
                self.assertEqual(kinds("x" + word), [("name", "x" + word)])
                self.assertEqual(kinds(word.upper()), [("name", word.upper())])

    def test_bound(self):
        name = "a" * 20
        self.assertEqual(kinds(name), [("name", name)])
        mixed = "b1_" * 6 + "c9"
        self.assertEqual(kinds(mixed), [("name", mixed)])
        self.text_fault(tokens, name + "a", 1, 1, "name too long")
        self.text_fault(tokens, name + "1", 1, 1, "name too long")
        self.text_fault(tokens, name + "_", 1, 1, "name too long")
        self.text_fault(tokens, "x " + "if" * 11, 1, 3, "name too long")
        self.text_fault(tokens, "x = 1;\n  " + mixed + "d = 2;", 2, 3, "name too long")
        self.text_fault(tokens, "x = 1;\n" + "z" * 200, 2, 1, "name too long")


class TestNumbers(Case):
    def test_digits(self):
        for text, number in (("0", 0), ("7", 7), ("07", 7), ("00", 0), ("0000123", 123), ("1234567890", 1234567890)):
            with self.subTest(text=text):
                self.assertEqual(tokens(text), (("number", number, 1, 1), ("end", "", 1, len(text) + 1)))

    def test_value_is_an_integer(self):
        self.assertIs(tokens("1")[0][1].__class__, int)

    def test_what_may_follow(self):
        for sign in SIGNS:
            self.assertEqual(kinds("12" + sign), [("number", 12), ("sign", sign)])

    def test_bound(self):
        for text in ("9" * 60, "0" * 60, "0" * 59 + "7"):
            self.assertEqual(kinds(text), [("number", int(text))])
        self.text_fault(tokens, "9" * 61, 1, 1, "number too long")
        self.text_fault(tokens, "0" * 61, 1, 1, "number too long")
        self.text_fault(tokens, "x = " + "0" * 60 + "1", 1, 5, "number too long")
        self.text_fault(tokens, "x\n " + "1" * 7000, 2, 2, "number too long")

    def test_no_letter_behind(self):
        self.text_fault(tokens, "1a", 1, 2, "number ends here")
        self.text_fault(tokens, "12_", 1, 3, "number ends here")
        self.text_fault(tokens, "x = 10;\ny = 12if", 2, 7, "number ends here")
        self.text_fault(tokens, "0x1F", 1, 2, "number ends here")
        for letter in LETTERS + "_":
            self.text_fault(tokens, "3" + letter, 1, 2, "number ends here")

    def test_too_long_comes_first(self):
        self.text_fault(tokens, "1" * 61 + "a", 1, 1, "number too long")
        self.text_fault(tokens, "1" * 60 + "a", 1, 61, "number ends here")


class TestStrings(Case):
    def test_meaning(self):
        for text, meant in (
            ('""', ""), ('"a"', "a"), ('"a b"', "a b"), ('"\\""', '"'), ('"\\\\"', "\\"), ('"\\n"', "\n"),
            ('"\\\\n"', "\\n"), ('"\\\\\\""', '\\"'), ('"a\\nb\\"c\\\\d"', 'a\nb"c\\d'), ('"\'"', "'"), ('"if"', "if"),
        ):
            with self.subTest(text=text):
                self.assertEqual(tokens(text), (("text", meant, 1, 1), ("end", "", 1, len(text) + 1)))

    def test_every_character(self):
        for character in CHARACTERS:
            if character not in '"\\':
                self.assertEqual(kinds('"' + character + '"'), [("text", character)])

    def test_bound(self):
        for written, meant in (("a" * 100, "a" * 100), ("\\n" * 100, "\n" * 100), ('\\"' * 50 + "b" * 50,
                               '"' * 50 + "b" * 50), ("\\\\" * 99 + "#", "\\" * 99 + "#")):
            self.assertEqual(kinds('"' + written + '"'), [("text", meant)])
            self.text_fault(tokens, '"' + written + 'c"', 1, 1, "string too long")
            self.text_fault(tokens, '"' + written + '\\n"', 1, 1, "string too long")
            self.text_fault(tokens, 'x\ny "' + written + 'c";', 2, 3, "string too long")

    def test_not_closed(self):
        self.text_fault(tokens, '"', 1, 2, "string not closed")
        self.text_fault(tokens, '"abc', 1, 5, "string not closed")
        self.text_fault(tokens, '"abc\nd"', 1, 5, "string not closed")
        self.text_fault(tokens, '"abc\\', 1, 6, "string not closed")
        self.text_fault(tokens, '"abc\\\nd"', 1, 6, "string not closed")
        self.text_fault(tokens, '"\\"', 1, 4, "string not closed")
        self.text_fault(tokens, '"\n', 1, 2, "string not closed")
        self.text_fault(tokens, 'x = 1;\n y = "ab;\n', 2, 10, "string not closed")
        self.text_fault(tokens, 'x = 1;\n y = "ab;', 2, 10, "string not closed")
        self.text_fault(tokens, '"a" "b" "', 1, 10, "string not closed")

    def test_unknown_escape(self):
        self.text_fault(tokens, '"\\t"', 1, 2, "unknown escape")
        self.text_fault(tokens, '"ab\\N"', 1, 4, "unknown escape")
        self.text_fault(tokens, '"ab\\ "', 1, 4, "unknown escape")
        self.text_fault(tokens, '"\\\\\\a"', 1, 4, "unknown escape")
        self.text_fault(tokens, "x\n\n  \"'\\''\"", 3, 5, "unknown escape")
        self.text_fault(tokens, '"ab\\0', 1, 4, "unknown escape")
        for character in CHARACTERS:
            if character not in '"\\n':
                self.text_fault(tokens, '"\\' + character + '"', 1, 2, "unknown escape")

    def test_other_faults_inside_come_before_too_long(self):
        self.text_fault(tokens, '"' + "a" * 150, 1, 152, "string not closed")
        self.text_fault(tokens, '"' + "a" * 150 + "\n", 1, 152, "string not closed")
        self.text_fault(tokens, '"' + "a" * 150 + "\\", 1, 153, "string not closed")
        self.text_fault(tokens, '"' + "a" * 150 + '\\t"', 1, 152, "unknown escape")


class TestSigns(Case):
    def test_every_sign(self):
        self.assertEqual(len(SIGNS), 21)
        for sign in SIGNS:
            with self.subTest(sign=sign):
                self.assertEqual(tokens(sign), (("sign", sign, 1, 1), ("end", "", 1, len(sign) + 1)))
                self.assertEqual(kinds("a" + sign + "b"), [("name", "a"), ("sign", sign), ("name", "b")])

    def test_the_longer_of_two(self):
        for text, signs in (
            ("<==", ["<=", "="]), ("===", ["==", "="]), ("====", ["==", "=="]), ("!==", ["!=", "="]),
            (">==", [">=", "="]), ("=<", ["=", "<"]), ("=>", ["=", ">"]), ("<>", ["<", ">"]), ("<<=", ["<", "<="]),
            (">>=", [">", ">="]), ("< =", ["<", "="]), ("= =", ["=", "="]), ("=\n=", ["=", "="]), ("--", ["-", "-"]),
            ("&&", ["&", "&"]), ("=!=", ["=", "!="]), ("==!=", ["==", "!="]), ("))", [")", ")"]),
        ):
            with self.subTest(text=text):
                self.assertEqual(kinds(text), [("sign", sign) for sign in signs])

    def test_unknown_character(self):
        for character in "_!$'?@:^`|~\\":
            if character != ";":
                self.text_fault(tokens, character, 1, 1, "unknown character")
                self.text_fault(tokens, "a " + character, 1, 3, "unknown character")
                self.text_fault(tokens, "a\nb\n  " + character + " c", 3, 3, "unknown character")
        self.text_fault(tokens, "_a", 1, 1, "unknown character")
        self.text_fault(tokens, "a! =", 1, 2, "unknown character")
        self.text_fault(tokens, "!", 1, 1, "unknown character")
        self.text_fault(tokens, "!!=", 1, 1, "unknown character")
        self.text_fault(tokens, "a\n!", 2, 1, "unknown character")
        self.text_fault(tokens, "a.__b", 1, 3, "unknown character")


class TestTextBound(Case):
    def test_at_the_bound(self):
        self.assertEqual(tokens(" " * 8000), (("end", "", 1, 8001),))
        self.assertEqual(tokens("\n" * 8000), (("end", "", 8001, 1),))
        self.assertEqual(len(tokens("a " * 4000)), 4001)

    def test_beyond_it(self):
        self.text_fault(tokens, " " * 8001, 1, 1, "text too long")
        self.text_fault(tokens, "\n" * 8001, 1, 1, "text too long")
        self.text_fault(tokens, "a " * 5000, 1, 1, "text too long")

    def test_before_all_other_faults(self):
        self.text_fault(tokens, "$" + " " * 8000, 1, 1, "text too long")
        self.text_fault(tokens, "x \n $" + "a" * 8000, 1, 1, "text too long")
        self.text_fault(tokens, "#" * 8001, 1, 1, "text too long")


class TestFirstFault(Case):
    def test_from_left_to_right(self):
        long_name = "n" * 21
        long_number = "1" * 61
        self.text_fault(tokens, "$ " + long_name, 1, 1, "unknown character")
        self.text_fault(tokens, long_name + " $", 1, 1, "name too long")
        self.text_fault(tokens, "a\n1b $\n" + long_name, 2, 2, "number ends here")
        self.text_fault(tokens, '"\\q" "', 1, 2, "unknown escape")
        self.text_fault(tokens, '"' + "a" * 101 + '" $', 1, 1, "string too long")
        self.text_fault(tokens, '$ "', 1, 1, "unknown character")
        self.text_fault(tokens, '"\n$', 1, 2, "string not closed")
        self.text_fault(tokens, long_number + " " + long_name, 1, 1, "number too long")
        self.text_fault(tokens, "# $\n_ $", 2, 1, "unknown character")
        self.text_fault(tokens, "1_" + long_name, 1, 2, "number ends here")


if __name__ == "__main__":
    unittest.main()
