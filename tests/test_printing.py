"""[t8], [t9], [t10]: the printed form of trees."""

import random
import unittest

from foretask.errors import TextFault
from foretask.parsing import parse, parse_expression
from foretask.printing import show, show_expression
from tests.support import Case, without_lines

NONE = ("const", ("none",))
ONE = ("const", ("int", 1))
TWO = ("const", ("int", 2))
BELOW = ("const", ("int", -3))
A = ("name", "a")
B = ("name", "b")
C = ("name", "c")
LEVELS = {
    "or": 0, "and": 1, "<": 3, "<=": 3, ">": 3, ">=": 3, "==": 3, "!=": 3, "&": 4, "+": 5, "-": 5, "*": 6, "/": 6,
    "mod": 6,
}


def two(operator, left, right):
    if operator in ("or", "and"):
        return (operator, left, right)
    return ("both", operator, left, right)


# A text, its tree and its level, for expressions of every level.
PARTS = [
    ("a", A, 8), ("1", ONE, 8), ("none", NONE, 8), ("true", ("const", ("bool", True)), 8),
    ('"x"', ("const", ("text", "x")), 8), ("a.f", ("field", A, "f"), 8), ("a[1]", ("item", A, ONE), 8),
    ("new r()", ("new", "r"), 8), ("array(1)", ("array", ONE), 8), ("size(a)", ("size", A), 8),
    ("-3", BELOW, 7), ("-1", ("const", ("int", -1)), 7), ("0", ("const", ("int", 0)), 8), ("-1", ("minus", ONE), 7),
    ("-a", ("minus", A), 7), ("not a", ("not", A), 2),
] + [("a " + operator + " b", two(operator, A, B), level) for operator, level in LEVELS.items()]


class TestExpressions(Case):
    def check(self, tree, text):
        with self.subTest(text=text):
            self.assertEqual(show_expression(tree), text)

    def test_constants(self):
        for value, text in (
            (("none",), "none"), (("bool", True), "true"), (("bool", False), "false"), (("int", 0), "0"),
            (("int", 12), "12"), (("int", -12), "-12"), (("text", ""), '""'), (("text", 'a"\\\n'), '"a\\"\\\\\\n"'),
            (("int", 10 ** 60 - 1), "9" * 60),
        ):
            self.check(("const", value), text)

    def test_every_tree(self):
        for text, tree, _ in PARTS:
            self.check(tree, text)
        self.check(("not", ("not", A)), "not not a")
        self.check(("minus", ("minus", A)), "--a")
        self.check(("field", ("field", A, "f"), "g"), "a.f.g")
        self.check(("item", ("item", A, ONE), ("item", B, TWO)), "a[1][b[2]]")

    def test_operands_of_operators(self):
        for operator, level in LEVELS.items():
            least = 4 if level == 3 else level
            for text, tree, part_level in PARTS:
                left = text if part_level >= least else "(" + text + ")"
                right = text if part_level >= level + 1 else "(" + text + ")"
                self.check(two(operator, tree, C), left + " " + operator + " c")
                self.check(two(operator, C, tree), "c " + operator + " " + right)

    def test_operand_of_not_and_minus(self):
        for text, tree, level in PARTS:
            self.check(("not", tree), "not " + (text if level >= 2 else "(" + text + ")"))
            self.check(("minus", tree), "-" + (text if level >= 7 else "(" + text + ")"))

    def test_fields_and_items(self):
        for text, tree, level in PARTS:
            inner = text if level >= 8 else "(" + text + ")"
            self.check(("field", tree, "f"), inner + ".f")
            self.check(("item", tree, B), inner + "[b]")
            self.check(("item", A, tree), "a[" + text + "]")

    def test_array_and_size(self):
        for text, tree, _ in PARTS:
            self.check(("array", tree), "array(" + text + ")")
            self.check(("size", tree), "size(" + text + ")")

    def test_some_plain_ones(self):
        for text in (
            "a or b and not c == -1", "(a or b) and c", "a - (b - c)", "a - b - c", "(a < b) == (b < c)",
            "not (a or b)", "-(a + b) * c", "a * (b + c)", "(a & b) + c", "a & b + c", "(not a) & b", "(-a).f", "(-a)[1]",
            "-a.f", "not a.f[1]", "a - -b", "--a - --b", "a mod b mod c", "a mod (b / c)", "a and (b and c)",
            "(a == b) == c", "a == (b == c)", "not not a or not b", "a[b or c].f[size(a) - 1]", '"x" & ("y" & "z")',
            "array(a + 1)[0].f", "new r().f", "size(not a)",
        ):
            self.check(parse_expression(text), text)


class TestStatements(Case):
    def check(self, block, *lines):
        with self.subTest(lines=lines):
            self.assertEqual(show(("program", (), (), block)), "".join(line + "\n" for line in lines))

    def one(self, statement, line):
        self.check((statement,), line)
        self.check((("while", 1, A, (statement,)),), "while (a) {", "  " + line, "}")

    def test_empty(self):
        self.assertEqual(show(("program", (), (), ())), "")

    def test_var_and_set(self):
        for kind, first in (("var", "var x = "), ("set", "x = ")):
            self.one((kind, 1, "x", ("expr", ONE)), first + "1;")
            self.one((kind, 1, "x", ("expr", ("or", A, B))), first + "a or b;")
            self.one((kind, 1, "x", ("read",)), first + "read();")
            self.one((kind, 1, "x", ("call", "f", (), False)), first + "f();")
            self.one((kind, 1, "x", ("call", "f", (ONE,), False)), first + "f(1);")
            self.one((kind, 1, "x", ("call", "f", (A, ("or", A, B)), True)), first + "ahead f(a, a or b);")

    def test_set_field_and_set_item(self):
        self.one(("set_field", 1, A, "f", ONE), "a.f = 1;")
        self.one(("set_field", 1, ("item", ("field", A, "g"), ONE), "f", ("not", B)), "a.g[1].f = not b;")
        self.one(("set_item", 1, A, ONE, TWO), "a[1] = 2;")
        self.one(("set_item", 1, ("field", A, "g"), ("or", A, B), BELOW), "a.g[a or b] = -3;")

    def test_call(self):
        self.one(("call", 1, "f", (), False), "f();")
        self.one(("call", 1, "f", (A, B, BELOW), False), "f(a, b, -3);")
        self.one(("call", 1, "f", (), True), "ahead f();")
        self.one(("call", 1, "f", (ONE, NONE), True), "ahead f(1, none);")

    def test_return(self):
        self.one(("return", 1, NONE), "return;")
        self.one(("return", 1, A), "return a;")
        self.one(("return", 1, ("const", ("bool", False))), "return false;")
        self.one(("return", 1, ("const", ("int", 0))), "return 0;")
        self.one(("return", 1, ("const", ("text", ""))), 'return "";')
        self.one(("return", 1, ("minus", A)), "return -a;")

    def test_break_throw_print(self):
        self.one(("break", 1), "break;")
        self.one(("throw", 1, A), "throw a;")
        self.one(("throw", 1, NONE), "throw none;")
        self.one(("print", 1, NONE), "print none;")
        self.one(("print", 1, ("field", ("minus", A), "f")), "print (-a).f;")
        self.one(("print", 1, ("new", "r")), "print new r();")

    def test_if(self):
        p = ("print", 1, ONE)
        q = ("print", 1, TWO)
        self.check((("if", 1, A, (), ()),), "if (a) {", "}")
        self.check((("if", 1, A, (p,), ()),), "if (a) {", "  print 1;", "}")
        self.check((("if", 1, A, (p, q), (q,)),), "if (a) {", "  print 1;", "  print 2;", "} else {", "  print 2;", "}")
        self.check((("if", 1, A, (), (q,)),), "if (a) {", "} else {", "  print 2;", "}")
        self.check((("if", 1, ("or", A, B), (), ()), p), "if (a or b) {", "}", "print 1;")

    def test_if_behind_else(self):
        p = ("print", 1, ONE)
        self.check((("if", 1, A, (), (("if", 1, B, (p,), ()),)),),
                   "if (a) {", "} else {", "  if (b) {", "    print 1;", "  }", "}")
        self.check((("if", 1, A, (p,), (("if", 1, B, (), (("if", 1, C, (), (p,)),)),)),),
                   "if (a) {", "  print 1;", "} else {", "  if (b) {", "  } else {", "    if (c) {", "    } else {",
                   "      print 1;", "    }", "  }", "}")

    def test_loops(self):
        p = ("print", 1, ONE)
        self.check((("while", 1, ("not", A), ()),), "while (not a) {", "}")
        self.check((("while", 1, A, (p, p)),), "while (a) {", "  print 1;", "  print 1;", "}")
        self.check((("for", 1, "i", ONE, ("both", "+", A, B), (), False),), "for (i = 1 to a + b) {", "}")
        self.check((("for", 1, "i", A, BELOW, (p,), True),), "ahead for (i = a to -3) {", "  print 1;", "}")

    def test_try(self):
        p = ("print", 1, ONE)
        self.check((("try", 1, (), "e", ()),), "try {", "} catch (e) {", "}")
        self.check((("try", 1, (p,), "e", (p, p)),),
                   "try {", "  print 1;", "} catch (e) {", "  print 1;", "  print 1;", "}")

    def test_blocks_in_blocks(self):
        block = (("break", 1),)
        lines = ["break;"]
        for _ in range(3):
            block = (
                ("while", 1, A, (("for", 1, "i", ONE, TWO, (("try", 1, block, "e", (("if", 1, A, block, block),)),),
                                  False),)),
            )
            once = ["  " * 3 + line for line in lines]
            twice = ["  " * 4 + line for line in lines]
            lines = (
                ["while (a) {", "  for (i = 1 to 2) {", "    try {"] + once + ["    } catch (e) {", "      if (a) {"] + twice
                + ["      } else {"] + twice + ["      }", "    }", "  }", "}"]
            )
            self.check(block, *lines)


class TestPrograms(Case):
    def check(self, text, shown):
        with self.subTest(text=text):
            self.assertEqual(show(parse(text)), shown)

    def test_empty(self):
        self.check("", "")
        self.check("# a\n\n", "")

    def test_records_and_procedures(self):
        self.check("record r();", "record r();\n")
        self.check("record r(a,b , c);", "record r(a, b, c);\n")
        self.check("proc f(){}", "proc f() {\n}\n")
        self.check("proc f(a,b){return;}", "proc f(a, b) {\n  return;\n}\n")
        self.check("proc f(a) { if (a) { return a; } }", "proc f(a) {\n  if (a) {\n    return a;\n  }\n}\n")

    def test_the_order(self):
        self.check(
            "print 1; proc f() {} record r(a); print 2; record q(); proc e() { f(); } print 3;",
            "record r(a);\nrecord q();\nproc f() {\n}\nproc e() {\n  f();\n}\nprint 1;\nprint 2;\nprint 3;\n",
        )

    def test_spaces(self):
        self.check(
            "var  x=1;x  =x+-1;x.f=x[ 2 ];ahead   f(  1,x  );if(x==1){f( );}else{}while(not(x)){break ;}"
            "for(i=1 to 2){}ahead for(i=x to size( x )){}try{throw(1);}catch(e){print(e);}x=ahead f(2);x=read( );"
            "x=new  r( );x=array( 3 );",
            "var x = 1;\nx = x + -1;\nx.f = x[2];\nahead f(1, x);\nif (x == 1) {\n  f();\n}\nwhile (not x) {\n  break;\n}\n"
            "for (i = 1 to 2) {\n}\nahead for (i = x to size(x)) {\n}\ntry {\n  throw 1;\n} catch (e) {\n  print e;\n}\n"
            "x = ahead f(2);\nx = read();\nx = new r();\nx = array(3);\n",
        )

    def test_parentheses_leave_no_trace(self):
        self.check("print ((1) + (2)) * (3);", "print (1 + 2) * 3;\n")
        self.check("print (((a)));", "print a;\n")

    def test_numbers_and_texts(self):
        self.check("print 007;", "print 7;\n")
        self.check('print "\\"\\\\\\n#";', 'print "\\"\\\\\\n#";\n')

    def test_else_if_is_written_as_a_block(self):
        self.check("if (a) {} else if (b) { f(); } else { g(); }",
                   "if (a) {\n} else {\n  if (b) {\n    f();\n  } else {\n    g();\n  }\n}\n")
        self.check("if (a) {} else { }", "if (a) {\n}\n")

    def test_return_none(self):
        self.check("proc f() { return none; return; return (none); }", "proc f() {\n  return;\n  return;\n  return;\n}\n")


class Texts:
    """Makes texts of programs by chance, with spaces, remarks and parentheses that are not needed."""

    def __init__(self, seed):
        self.chance = random.Random(seed)

    def gap(self):
        return self.chance.choice(("", "", "", " ", "  ", "\n", " # x \" $\n"))

    def join(self, *parts):
        return " ".join(part + self.gap() for part in parts)

    def name(self):
        return self.chance.choice(("a", "b", "c", "total", "x1", "long_name"))

    def expression(self, deep):
        pick = self.chance.randrange(13 if deep > 0 else 4)
        if pick < 2:
            return self.name()
        if pick == 2:
            return self.chance.choice(("0", "1", "42", "007", "none", "true", "false"))
        if pick == 3:
            return self.chance.choice(('""', '"a b"', '"\\n\\"\\\\"', "new r()"))
        inner = self.expression(deep - 1)
        if pick < 8:
            return self.join(self.operand(inner), self.chance.choice(list(LEVELS)), self.operand(self.expression(deep - 1)))
        if pick == 8:
            return self.join("not", self.operand(inner))
        if pick == 9:
            return self.join("-", self.operand(inner))
        if pick == 10:
            return self.join("(" + inner + ")", ".", self.name())
        if pick == 11:
            return self.join(self.name(), "[", inner, "]")
        return self.join(self.chance.choice(("array", "size")), "(", inner, ")")

    def operand(self, text):
        return text if self.chance.randrange(3) == 0 else "(" + text + ")"

    def arguments(self):
        return ", ".join(self.expression(1) for _ in range(self.chance.randrange(3)))

    def right(self):
        pick = self.chance.randrange(5)
        if pick == 0:
            return "read()"
        if pick < 3:
            return ("ahead " if pick == 1 else "") + self.join("f", "(", self.arguments(), ")")
        return self.expression(3)

    def block(self, deep):
        return "{" + self.gap() + "".join(self.statement(deep - 1) for _ in range(self.chance.randrange(3))) + "}"

    def statement(self, deep):
        e = self.expression
        ahead = self.chance.choice(("", "ahead "))
        simple = [
            lambda: self.join("var", self.name(), "=", self.right(), ";"),
            lambda: self.join(self.name(), "=", self.right(), ";"),
            lambda: self.join(self.name(), ".", "f", "=", e(2), ";"),
            lambda: self.join(self.name(), ".", "g", "[", e(1), "]", "=", e(2), ";"),
            lambda: ahead + self.join("f", "(", self.arguments(), ")", ";"),
            lambda: self.join("return", self.chance.choice(("", "none", e(2))), ";"),
            lambda: self.join("break", ";"),
            lambda: self.join(self.chance.choice(("throw", "print")), e(3), ";"),
        ]
        nested = [
            lambda: self.join("if", "(", e(2), ")", self.block(deep)),
            lambda: self.join("if", "(", e(2), ")", self.block(deep), "else", self.block(deep)),
            lambda: self.join("if", "(", e(2), ")", "{}", "else if", "(", e(2), ")", self.block(deep), "else", "{}"),
            lambda: self.join("while", "(", e(2), ")", self.block(deep)),
            lambda: ahead + self.join("for", "(", self.name(), "=", e(1), "to", e(1), ")", self.block(deep)),
            lambda: self.join("try", self.block(deep), "catch", "(", self.name(), ")", self.block(deep)),
        ]
        return self.chance.choice(simple + nested if deep > 0 else simple)() + self.gap()

    def program(self):
        parts = [self.statement(3) for _ in range(self.chance.randrange(1, 6))]
        parts.insert(self.chance.randrange(len(parts) + 1), "record r(a, b);" + self.gap())
        parts.insert(self.chance.randrange(len(parts) + 1), "proc f(a) " + self.block(2) + self.gap())
        return "".join(parts)


class TestReadingBack(Case):
    TEXTS = (
        "", "record r(a, b); record s();", "proc f() {} proc g(a, b) { return a; }", "print -1 - -2;",
        "if (a) {} else if (b) {} else if (c) { print 1; } else { print 2; }", "x = 1; proc f() { x = 2; } print x;",
        'print "\\n" & "#" & "\\\\" & "\\"";', "a.b[c.d[1]].e = (a or b) and not (c and d);", "return; return none;",
        "try { try {} catch (a) {} } catch (b) { throw b; }", "ahead for (i = -1 to (2)) { ahead f(i); x = ahead f(); }",
        "print (-a).f; print -a.f; print (not a).f; print (a + b)[1]; print array(3)[0]; print new r().f;",
    )

    def check(self, text):
        with self.subTest(text=text):
            tree = parse(text)
            shown = show(tree)
            again = parse(shown)
            self.assertEqual(without_lines(again), without_lines(tree))
            self.assertEqual(show(again), shown)

    def test_plain_texts(self):
        for text in self.TEXTS:
            self.check(text)

    def test_many_texts(self):
        read = 0
        for seed in range(600):
            text = Texts(seed).program()
            try:
                parse(text)
            except TextFault as fault:
                # A comparison of comparisons, or a not where none may stand: parentheses are left out by chance.
                self.assertTrue(fault.reason.startswith("expected"), fault)
            else:
                read += 1
                self.check(text)
        self.assertGreater(read, 150)

    def test_every_pair_of_parentheses_is_needed(self):
        seen = 0
        for seed in range(400):
            text = Texts(seed).expression(3)
            try:
                tree = parse_expression(text)
            except TextFault:
                continue
            shown = show_expression(tree)
            self.assertEqual(parse_expression(shown), tree)
            for bare in self.without_a_pair(shown):
                seen += 1
                with self.subTest(shown=shown, bare=bare):
                    try:
                        self.assertNotEqual(parse_expression(bare), tree)
                    except TextFault:
                        pass
        self.assertGreater(seen, 100)

    def without_a_pair(self, shown):
        """Returns the texts with one pair of parentheses taken away, but those of new, array and size."""
        opened = []
        found = []
        for at, character in enumerate(shown):
            if character == "(":
                opened.append(at)
            elif character == ")":
                start = opened.pop()
                if not (start and (shown[start - 1].isalnum() or shown[start - 1] == "_")):
                    found.append(shown[:start] + shown[start + 1:at] + shown[at + 1:])
        return found


if __name__ == "__main__":
    unittest.main()
