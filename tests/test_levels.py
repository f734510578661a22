"""[t3]: the levels of operators."""

import random
import unittest

from foretask.parsing import parse_expression
from tests.support import Case

A = ("name", "a")
B = ("name", "b")
C = ("name", "c")
LEVELS = (
    ("or",), ("and",), ("not",), ("<", "<=", ">", ">=", "==", "!="), ("&",), ("+", "-"), ("*", "/", "mod"), ("minus",)
)
BETWEEN = [(operator, level) for level in (0, 1, 3, 4, 5, 6) for operator in LEVELS[level]]


def two(operator, left, right):
    if operator in ("or", "and"):
        return (operator, left, right)
    return ("both", operator, left, right)


def bracketed(tree):
    """Returns the text of a tree with parentheses around every operand."""
    if tree[0] == "name":
        return tree[1]
    if tree[0] == "not":
        return "not (" + bracketed(tree[1]) + ")"
    if tree[0] == "minus":
        return "-(" + bracketed(tree[1]) + ")"
    operator, left, right = tree[1:] if tree[0] == "both" else tree
    return "(" + bracketed(left) + ")" + operator + "(" + bracketed(right) + ")"


class TestLevels(Case):
    def check(self, text, tree):
        with self.subTest(text=text):
            self.assertEqual(parse_expression(text), tree)

    def test_every_operator(self):
        for operator, _ in BETWEEN:
            self.check("a " + operator + " b", two(operator, A, B))
        self.check("not a", ("not", A))
        self.check("-a", ("minus", A))

    def test_without_spaces(self):
        for operator in ("<", "<=", ">", ">=", "==", "!=", "&", "+", "-", "*", "/"):
            self.check("a" + operator + "b", ("both", operator, A, B))
        self.check("(a)or(b)", ("or", A, B))
        self.check("(a)mod(b)", ("both", "mod", A, B))
        self.check("not(a)", ("not", A))

    def test_two_operators(self):
        for first, first_level in BETWEEN:
            for second, second_level in BETWEEN:
                text = "a " + first + " b " + second + " c"
                if first_level < second_level:
                    self.check(text, two(first, A, two(second, B, C)))
                elif first_level > second_level or first_level != 3:
                    self.check(text, two(second, two(first, A, B), C))
                else:
                    self.text_fault(parse_expression, text, 1, len("a " + first + " b ") + 1, "expected end")

    def test_parentheses(self):
        for first, _ in BETWEEN:
            for second, _ in BETWEEN:
                self.check("a " + first + " (b " + second + " c)", two(first, A, two(second, B, C)))
                self.check("(a " + first + " b) " + second + " c", two(second, two(first, A, B), C))

    def test_to_the_left(self):
        for operator, level in BETWEEN:
            if level != 3:
                text = "a " + operator + " b " + operator + " c " + operator + " a"
                self.check(text, two(operator, two(operator, two(operator, A, B), C), A))
        self.check("a - b + c", two("+", two("-", A, B), C))
        self.check("a / b * c mod a", two("mod", two("*", two("/", A, B), C), A))

    def test_not(self):
        for operator, level in BETWEEN:
            tree = ("not", two(operator, A, B)) if level > 2 else two(operator, ("not", A), B)
            self.check("not a " + operator + " b", tree)
        self.check("not not a", ("not", ("not", A)))
        self.check("a and not b", ("and", A, ("not", B)))
        self.check("a or not b", ("or", A, ("not", B)))
        self.check("not a and not b or not c", ("or", ("and", ("not", A), ("not", B)), ("not", C)))
        self.check("not a == b and c", ("and", ("not", two("==", A, B)), C))
        self.check("not (a and b)", ("not", ("and", A, B)))
        self.check("(not a) == b", two("==", ("not", A), B))

    def test_not_is_no_operand_of_a_stronger_operator(self):
        for operator, level in BETWEEN:
            if level > 2:
                text = "a " + operator + " not b"
                self.text_fault(parse_expression, text, 1, len(text) - 4, "expected an expression")
        self.text_fault(parse_expression, "-not a", 1, 2, "expected an expression")
        self.text_fault(parse_expression, "not -not a", 1, 6, "expected an expression")
        self.text_fault(parse_expression, "not a < not b", 1, 9, "expected an expression")

    def test_minus(self):
        for operator, _ in BETWEEN:
            self.check("-a " + operator + " b", two(operator, ("minus", A), B))
            self.check("a " + operator + " -b", two(operator, A, ("minus", B)))
        self.check("--a", ("minus", ("minus", A)))
        self.check("a--b", two("-", A, ("minus", B)))
        self.check("a - - -b", two("-", A, ("minus", ("minus", B))))
        self.check("-a.b", ("minus", ("field", A, "b")))
        self.check("-a[b]", ("minus", ("item", A, B)))
        self.check("(-a).b", ("field", ("minus", A), "b"))
        self.check("-(a + b)", ("minus", two("+", A, B)))
        self.check("-1", ("minus", ("const", ("int", 1))))
        self.check("not -a", ("not", ("minus", A)))
        self.check("not - - a < b", ("not", two("<", ("minus", ("minus", A)), B)))

    def test_comparisons_do_not_associate(self):
        for first in LEVELS[3]:
            for second in LEVELS[3]:
                text = "a " + first + " b " + second + " c"
                at = len("a " + first + " b ") + 1
                self.text_fault(parse_expression, text, 1, at, "expected end")
                self.text_fault(parse_expression, "not " + text, 1, at + 4, "expected end")
                self.text_fault(parse_expression, "c or " + text, 1, at + 5, "expected end")
                self.text_fault(parse_expression, "c and " + text + " and a", 1, at + 6, "expected end")
                self.text_fault(parse_expression, "(" + text + ")", 1, at + 1, "expected )")
        self.check("(a < b) < c", two("<", two("<", A, B), C))
        self.check("a < (b < c)", two("<", A, two("<", B, C)))
        self.check("a < b and b < c", ("and", two("<", A, B), two("<", B, C)))
        self.check("a & b == b + c", two("==", two("&", A, B), two("+", B, C)))

    def test_all_levels_together(self):
        inner = two("*", A, ("minus", B))
        self.check(
            "a or b and not c < a & b + a * -b",
            ("or", A, ("and", B, ("not", two("<", C, two("&", A, two("+", B, inner)))))),
        )
        inner = two("+", two("*", ("minus", A), B), C)
        self.check(
            "-a * b + c & a < b and c or a", ("or", ("and", two("<", two("&", inner, A), B), C), A)
        )


class TestAgainstPlainParsing(Case):
    """Long rows of operators, against a second reading of the table: split at the weakest operator."""

    def split(self, row):
        """Returns the tree of a row of names and operators without not; minus stands before its operand."""
        for operators in LEVELS[:2] + LEVELS[3:7]:
            places = [at for at, word in enumerate(row) if word in operators]
            if places:
                at = places[-1]
                return two(row[at], self.split(row[:at]), self.split(row[at + 1:]))
        if row[0] == "minus":
            return ("minus", self.split(row[1:]))
        return ("name", row[0])

    def make(self, chance, weakest):
        """Returns a row of the grammar: operators, each with operands of the level that it allows."""
        level = chance.choice([k for k in range(9) if k >= weakest])
        if level == 2:
            return ["not"] + self.make(chance, 2)
        if level == 7:
            return ["minus"] + self.make(chance, 7)
        if level == 8:
            return [chance.choice("abc")]
        left = level + 1 if level == 3 else level
        return self.make(chance, left) + [chance.choice(LEVELS[level])] + self.make(chance, level + 1)

    def test_rows(self):
        chance = random.Random(5)
        seen = 0
        while seen < 400:
            row = self.make(chance, 0)
            if 5 <= len(row) <= 25:
                seen += 1
                text = " ".join("-" if word == "minus" else word for word in row)
                with self.subTest(text=text):
                    tree = parse_expression(text)
                    if "not" not in row:
                        self.assertEqual(tree, self.split(row))
                    if self.nesting(bracketed(tree)) <= 10:
                        self.assertEqual(parse_expression(bracketed(tree)), tree)

    def nesting(self, text):
        open_now = deepest = 0
        for character in text:
            open_now += {"(": 1, ")": -1}.get(character, 0)
            deepest = max(deepest, open_now)
        return deepest


if __name__ == "__main__":
    unittest.main()
