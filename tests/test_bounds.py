"""[t6], [c2]: the bounds that hold while a text is read, at the bound and one beyond it."""

import unittest

from foretask.parsing import parse, parse_expression
from tests.support import Case

DEEP = "nested too deeply"


def levels(tree):
    """Returns how many levels the tree of an expression has."""
    if tree[0] in ("const", "name", "new"):
        return 1
    parts = tree[2:] if tree[0] == "both" else tree[1:2] if tree[0] == "field" else tree[1:]
    return 1 + max(levels(part) for part in parts)


def sums(count):
    """Returns an expression with this many levels."""
    return "+".join(["1"] * count)


class TestBrackets(Case):
    def good(self, text):
        with self.subTest(text=text):
            parse_expression(text)

    def test_parentheses(self):
        self.good("(" * 10 + "a" + ")" * 10)
        self.text_fault(parse_expression, "(" * 11 + "a" + ")" * 11, 1, 11, DEEP)
        self.text_fault(parse_expression, "\n" + "(" * 30, 2, 11, DEEP)
        self.text_fault(parse_expression, "(" * 10, 1, 11, "expected an expression")

    def test_items(self):
        self.good("a[" * 10 + "1" + "]" * 10)
        self.text_fault(parse_expression, "a[" * 11 + "1" + "]" * 11, 1, 22, DEEP)

    def test_array_and_size(self):
        for word in ("array", "size"):
            self.good((word + "(") * 10 + "1" + ")" * 10)
            at = 11 * len(word + "(")
            self.text_fault(parse_expression, (word + "(") * 11 + "1" + ")" * 11, 1, at, DEEP)
            self.text_fault(parse_expression, (word + "(") * 10 + word + " 1", 1, at + 1, "expected (")

    def test_all_together(self):
        ten = "(a[array(size((a[array(size((a["
        closed = "".join({"(": ")", "[": "]"}[sign] for sign in reversed(ten) if sign in "([")
        self.assertEqual(len(closed), 10)
        self.good(ten + "1" + closed)
        for more, at in (("(", 0), ("a[", 1), ("size(", 4), ("array(", 5)):
            self.text_fault(parse_expression, ten + more + "1", 1, len(ten) + at + 1, DEEP)

    def test_only_what_is_open_counts(self):
        self.good("+".join(["(1)"] * 25))
        self.good("(" * 9 + "(1) + (2) + a[3] + size(a) + (4)" + ")" * 9)
        self.good("a" + "[1]" * 25)
        self.good("(" * 10 + "a" + ")" * 10 + "[" + "(" * 9 + "1" + ")" * 9 + "]")
        text = "(" * 10 + "a" + ")" * 10 + "[" + "(" * 10 + "1" + ")" * 10 + "]"
        self.text_fault(parse_expression, text, 1, 32, DEEP)

    def test_other_parentheses_do_not_count(self):
        deep = "(" * 10 + "1" + ")" * 10
        for text in (
            "f(X);", "ahead f(1, X);", "x = f(X);", "var x = ahead f(X);", "if (X) {}", "while (X) {}",
            "for (i = X to X) {}", "proc f() { return X; }", "print " + "(" * 10 + "new r()" + ")" * 10 + ";",
            "x = X;", "f(X, X);",
        ):
            with self.subTest(text=text):
                parse(text.replace("X", deep))
        over = "(" * 11 + "1" + ")" * 11
        for text, at in (("f(X);", 12), ("if (X) {}", 14), ("for (i = 1 to X) {}", 24), ("print X;", 16)):
            self.text_fault(parse, text.replace("X", over), 1, at + 1, DEEP)

    def test_in_paths_of_assignments(self):
        parse("a[" * 10 + "1" + "]" * 10 + " = 1;")
        self.text_fault(parse, "a[" * 11 + "1" + "]" * 11 + " = 1;", 1, 22, DEEP)
        parse("a[" + "(" * 9 + "1" + ")" * 9 + "].b = 1;")
        self.text_fault(parse, "a[" + "(" * 10 + "1" + ")" * 10 + "].b = 1;", 1, 12, DEEP)

    def test_comes_before_faults_behind_it(self):
        self.text_fault(parse_expression, "(" * 11 + ";", 1, 11, DEEP)
        self.text_fault(parse_expression, "(" * 10 + ";", 1, 11, "expected an expression")


class TestBlocks(Case):
    HEADS = ("if (a) {", "if (a) {} else {", "while (a) {", "for (i = 1 to 2) {", "ahead for (i = 1 to 2) {", "try {",
             "try {} catch (e) {")
    ENDS = {"try {": "} catch (e) {}"}

    def test_every_kind(self):
        for head in self.HEADS:
            end = self.ENDS.get(head, "}")
            with self.subTest(head=head):
                parse(head * 10 + "print 1;" + end * 10)
            if head.count("{") == 1:
                text = head * 11 + "print 1;" + end * 11
                self.text_fault(parse, text, 1, 11 * len(head), DEEP)

    def test_the_first_brace_beyond(self):
        # With ten blocks open the first brace of a statement is one too many, whatever stands behind it.
        for head in self.HEADS:
            text = "while (a) {" * 10 + head
            self.text_fault(parse, text, 1, 110 + head.index("{") + 1, DEEP)
        for head in ("if (a) {} else {", "try {} catch (e) {"):
            ten = "while (a) {" * 9 + head
            with self.subTest(head=head):
                parse(ten + "print 1;" + "}" * 10)
            self.text_fault(parse, ten + "while (a) {", 1, len(ten) + 11, DEEP)

    def test_procedures(self):
        nine = "while (a) {" * 9
        parse("proc f() {" + nine + "}" * 10)
        text = "proc f() {" + nine + "while (a) {"
        self.text_fault(parse, text, 1, len(text), DEEP)

    def test_mixed_kinds(self):
        text = "proc f() {if (a) {while (a) {for (i = 1 to 2) {try {if (a) {} else {while (a) {try {} catch (e) {"
        text += "ahead for (i = 1 to 2) {if (a) {"
        self.assertEqual(text.count("{") - text.count("}"), 10)
        parse(text + "}" * 5 + "} catch (e) {}" + "}" * 4)
        self.text_fault(parse, text + "try {", 1, len(text) + 5, DEEP)

    def test_only_what_is_open_counts(self):
        parse("if (a) {} else {} " * 30)
        parse("while (a) {" * 9 + "try {} catch (e) {} if (a) {} else {}" * 5 + "}" * 9)
        parse("proc f() {} " * 20 + "while (a) {" * 10 + "}" * 10)

    def chain(self, count, last):
        """Returns an if with this many else if behind it."""
        return "if (a) {}" + " else if (a) {}" * count + last

    def test_chains_of_else_if(self):
        parse(self.chain(9, ""))
        parse(self.chain(9, " else { print 1; }"))
        text_of_ten = self.chain(10, "")
        self.text_fault(parse, text_of_ten, 1, len(text_of_ten) - 1, DEEP)
        text = self.chain(9, " else { while (a) {")
        self.text_fault(parse, text, 1, len(text), DEEP)
        self.text_fault(parse, self.chain(20, ""), 1, len(text_of_ten) - 1, DEEP)

    def test_blocks_in_chains(self):
        # The blocks of the last if stand in one block for each else if before them.
        for count in range(10):
            rest = 10 - count - 1
            text = self.chain(count, "")[:-1] + "while (a) {" * rest
            with self.subTest(count=count):
                parse(text + "}" * (rest + 1))
            self.text_fault(parse, text + "while (a) {", 1, len(text) + 11, DEEP)

    def test_behind_a_chain_its_blocks_are_closed(self):
        parse(self.chain(9, " ") + "while (a) {" * 10 + "}" * 10)
        parse((self.chain(9, " else {} ")) * 5)
        for count in range(10):
            text = self.chain(count, " ") + "while (a) {" * 11
            self.text_fault(parse, text, 1, len(text), DEEP)
        parse("while (a) {" * 5 + self.chain(4, "") + "while (a) {" * 5 + "}" * 10)
        text = "while (a) {" * 5 + self.chain(5, "")
        self.text_fault(parse, text, 1, len(text) - 1, DEEP)

    def test_an_else_if_counts_like_a_block(self):
        text = "while (a) {" * 9 + "if (a) {} else if (a) {"
        self.text_fault(parse, text, 1, len(text), DEEP)


class TestLevels(Case):
    def good(self, text, count=30):
        with self.subTest(text=text):
            self.assertEqual(levels(parse_expression(text)), count)

    def test_operators_to_the_left(self):
        for operator in ("or", "and", "&", "+", "-", "*", "/", "mod"):
            sign = " " + operator + " "
            self.good(sign.join(["a"] * 30))
            text = sign.join(["a"] * 31)
            self.text_fault(parse_expression, text, 1, len(text) - 1 - len(operator), DEEP)
            text = sign.join(["a"] * 40)
            self.text_fault(parse_expression, text, 1, len(sign.join(["a"] * 30)) + 2, DEEP)

    def test_each_operator_counts(self):
        for operator in ("or", "and", "&", "+", "<", "==", "!="):
            self.good("(" + sums(29) + ") " + operator + " 1")
            self.good("1 " + operator + " (" + sums(29) + ")")
            self.text_fault(parse_expression, "(" + sums(30) + ") " + operator + " 1", 1, len(sums(30)) + 4, DEEP)
            self.text_fault(parse_expression, "1 " + operator + " (" + sums(30) + ")", 1, 3, DEEP)

    def test_operators_before_an_operand(self):
        self.good("-(" + sums(29) + ")")
        self.good("not (" + sums(29) + ")")
        self.text_fault(parse_expression, " -(" + sums(30) + ")", 1, 2, DEEP)
        self.text_fault(parse_expression, " not (" + sums(30) + ")", 1, 2, DEEP)
        self.text_fault(parse_expression, "not " + sums(30), 1, 1, DEEP)
        self.good("not not --(" + sums(26) + ")")
        # The one that is too much is the outer one: its operand is read first.
        self.text_fault(parse_expression, "not not - -(" + sums(27) + ")", 1, 1, DEEP)
        self.text_fault(parse_expression, "not not - -(" + sums(28) + ")", 1, 5, DEEP)
        self.text_fault(parse_expression, "not not - -(" + sums(29) + ")", 1, 9, DEEP)
        self.text_fault(parse_expression, "not not - -(" + sums(30) + ")", 1, 11, DEEP)

    def test_fields(self):
        self.good("a" + ".f" * 29)
        self.text_fault(parse_expression, "a" + ".f" * 30, 1, 60, DEEP)
        self.text_fault(parse_expression, "a" + ".f" * 35, 1, 60, DEEP)
        self.good("new r()" + ".f" * 29)
        self.good("(" + sums(29) + ").f")
        self.text_fault(parse_expression, "(" + sums(30) + ").f", 1, len(sums(30)) + 3, DEEP)

    def test_items(self):
        self.good("a" + "[1]" * 29)
        self.text_fault(parse_expression, "a" + "[1]" * 30, 1, 89, DEEP)
        self.good("a[" + sums(29) + "]")
        self.text_fault(parse_expression, "a[" + sums(30) + "]", 1, 2, DEEP)
        self.good("a[" + sums(29) + "]")
        self.good("a[" + sums(28) + "].f")
        self.text_fault(parse_expression, "a[" + sums(29) + "].f", 1, 2 + len(sums(29)) + 2, DEEP)

    def test_array_and_size(self):
        for word in ("array", "size"):
            self.good(word + "(" + sums(29) + ")")
            self.text_fault(parse_expression, " " + word + "(" + sums(30) + ")", 1, 2, DEEP)
            self.good("(" + word + "(" + sums(27) + ").f).g")
            self.text_fault(parse_expression, "1+" + word + "(" + sums(30) + ")", 1, 3, DEEP)

    def test_parts_of_one_level(self):
        for part in ("1", '"x"', "none", "true", "false", "a", "new r()", "(1)", "(new r())"):
            self.good(part, 1)
            self.good("+".join([part] * 30))
            self.good(part + ".f" * 29)
            text = "+".join([part] * 31)
            self.text_fault(parse_expression, text, 1, len(text) - len(part), DEEP)
            text = part + ".f" * 30
            self.text_fault(parse_expression, text, 1, len(text) - 1, DEEP)

    def test_parentheses_and_new_are_no_levels(self):
        self.good("(" * 10 + sums(30) + ")" * 10)
        self.good("new r()", 1)
        self.good("+".join(["new r()"] * 30))
        self.good("+".join(["(1)"] * 30))

    def test_found_behind_the_last_operand(self):
        head = "+".join(["1"] * 30) + "+"
        self.text_fault(parse_expression, head, 1, 61, "expected an expression")
        self.text_fault(parse_expression, head + ";", 1, 61, "expected an expression")
        self.text_fault(parse_expression, head + "1;", 1, 60, DEEP)
        self.text_fault(parse_expression, head + "1)", 1, 60, DEEP)
        self.text_fault(parse_expression, head + "(1;", 1, 63, "expected )")
        self.text_fault(parse_expression, head + "(" * 11, 1, 71, DEEP)
        self.text_fault(parse_expression, head + "1.2", 1, 63, "expected a name")
        fields = "a" + ".f" * 29
        self.text_fault(parse_expression, fields + ".", 1, 61, "expected a name")
        self.text_fault(parse_expression, fields + ".1", 1, 61, "expected a name")
        self.text_fault(parse_expression, fields + ".f )", 1, 60, DEEP)
        self.text_fault(parse_expression, fields + "[", 1, 61, "expected an expression")
        self.text_fault(parse_expression, fields + "[]", 1, 61, "expected an expression")
        self.text_fault(parse_expression, fields + "[1", 1, 60, DEEP)
        self.text_fault(parse_expression, fields + "[1)", 1, 60, DEEP)
        self.text_fault(parse_expression, fields + "[1+]", 1, 63, "expected an expression")
        for word in ("array", "size"):
            self.text_fault(parse_expression, word + "(" + sums(30), 1, 1, DEEP)
            self.text_fault(parse_expression, word + "(" + sums(30) + "]", 1, 1, DEEP)
            inside = word + "(" + sums(30)
            self.text_fault(parse_expression, inside + "*", 1, len(inside) + 2, "expected an expression")
        self.text_fault(parse_expression, "-(" + sums(30), 1, len(sums(30)) + 3, "expected )")

    def test_stronger_operators_belong_to_the_last_operand(self):
        head = "+".join(["1"] * 30) + "+"
        self.text_fault(parse_expression, head + "1*", 1, 63, "expected an expression")
        self.text_fault(parse_expression, head + "1+", 1, 60, DEEP)

    def test_the_path_of_an_assignment(self):
        parse("a" + ".f" * 29 + " = 1;")
        self.text_fault(parse, "a" + ".f" * 30 + " = 1;", 1, 60, DEEP)
        self.text_fault(parse, "a" + ".f" * 30 + ";", 1, 60, DEEP)
        self.text_fault(parse, "a" + ".f" * 29 + ". = 1;", 1, 62, "expected a name")
        parse("a" + "[1]" * 29 + " = 1;")
        self.text_fault(parse, "a" + "[1]" * 30 + " = 1;", 1, 89, DEEP)
        self.text_fault(parse, "a" + "[1]" * 29 + "[1 = 1;", 1, 89, DEEP)
        parse("a[" + sums(29) + "] = 1;")
        self.text_fault(parse, "a[" + sums(30) + "] = 1;", 1, 2, DEEP)
        parse("a[" + sums(28) + "].f = " + sums(30) + ";")
        self.text_fault(parse, "a[" + sums(29) + "].f = 1;", 1, 2 + len(sums(29)) + 2, DEEP)

    def test_in_every_statement(self):
        for text in (
            "var x = X;", "x = X;", "x.f = X;", "x[1] = X;", "f(X);", "f(1, X, X);", "x = f(X);", "ahead f(X);",
            "if (X) {}", "while (X) {}", "for (i = X to X) {}", "return X;", "throw X;", "print X;",
        ):
            with self.subTest(text=text):
                parse(text.replace("X", sums(30)))
            at = text.index("X") + 60
            self.text_fault(parse, text.replace("X", sums(31)), 1, at, DEEP)


class TestRowsOfOperators(Case):
    def good(self, text):
        with self.subTest(text=text):
            parse_expression(text)

    def test_not(self):
        self.good("not " * 10 + "a")
        self.text_fault(parse_expression, "not " * 11 + "a", 1, 41, DEEP)

    def test_minus(self):
        self.good("-" * 10 + "a")
        self.text_fault(parse_expression, "-" * 11 + "a", 1, 11, DEEP)
        self.good("- # b\n" * 10 + "a")
        self.text_fault(parse_expression, "-\n" * 11 + "a", 11, 1, DEEP)

    def test_both_in_a_row(self):
        for count in range(11):
            self.good("not " * count + "-" * (10 - count) + "a")
            at = 4 * count + 10 - count + 1
            self.text_fault(parse_expression, "not " * count + "-" * (11 - count) + "a", 1, at, DEEP)

    def test_the_first_beyond_is_told_at_once(self):
        self.text_fault(parse_expression, "-" * 11, 1, 11, DEEP)
        self.text_fault(parse_expression, "-" * 11 + ";", 1, 11, DEEP)
        self.text_fault(parse_expression, "-" * 20 + "not a", 1, 11, DEEP)
        self.text_fault(parse_expression, "-" * 10 + "not a", 1, 11, "expected an expression")
        self.text_fault(parse_expression, "-" * 10, 1, 11, "expected an expression")

    def test_another_token_begins_a_new_row(self):
        self.good("-" * 10 + "(" + "-" * 10 + "a)")
        self.good("-" * 10 + "a*" + "-" * 10 + "b")
        self.good("not " * 10 + "a and " + "not " * 10 + "b")
        self.good("not " * 10 + "(not " + "-" * 9 + "a)")
        self.good("not " * 10 + "a == " + "-" * 10 + "b")
        self.good("a[" + "-" * 10 + "b] + " + "-" * 10 + "b")
        self.text_fault(parse_expression, "-" * 10 + "(" + "-" * 11 + "a)", 1, 22, DEEP)
        self.text_fault(parse_expression, "-" * 3 + "a*" + "-" * 11 + "b", 1, 16, DEEP)

    def test_a_minus_between_operands_does_not_count(self):
        self.good("a-" + "-" * 10 + "b")
        self.text_fault(parse_expression, "a-" + "-" * 11 + "b", 1, 13, DEEP)
        self.good("a" + "-b" * 25)

    def test_rows_in_later_expressions(self):
        text = "print " + "-" * 10 + "1;\n"
        parse(text * 3)
        self.text_fault(parse, text * 3 + "print " + "-" * 11 + "1;", 4, 17, DEEP)


class TestTogether(Case):
    def test_each_bound_alone(self):
        brackets = "(" * 10 + "-" * 10 + "1" + ")" * 10
        blocks = "while (" + brackets + ") {"
        parse(blocks * 10 + "print " + brackets + ";" + "}" * 10)

    def test_operators_of_every_level_within_brackets_and_blocks(self):
        part = "1 or 1 and not 1 < 1 & 1 + 1 * -"
        text = "while (1) {" * 10 + "print " + (part + "(") * 3 + "1" + ")" * 3 + ";" + "}" * 10
        block = parse(text)[3]
        for _ in range(10):
            block = block[0][3]
        self.assertEqual(levels(block[0][2]), 25)


if __name__ == "__main__":
    unittest.main()
