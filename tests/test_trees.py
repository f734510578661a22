"""[t1], [t2], [t4], [t5], [c6] to [c8]: every row of the grammar with the tree that it gives."""

import unittest

from foretask.parsing import parse, parse_expression
from tests.support import Case

NONE = ("const", ("none",))
ONE = ("const", ("int", 1))
TWO = ("const", ("int", 2))
THREE = ("const", ("int", 3))
A = ("name", "a")
B = ("name", "b")
C = ("name", "c")


class TestTerms(Case):
    def check(self, text, tree):
        with self.subTest(text=text):
            self.assertEqual(parse_expression(text), tree)

    def test_constants(self):
        self.check("1", ONE)
        self.check("007", ("const", ("int", 7)))
        self.check("9" * 60, ("const", ("int", 10 ** 60 - 1)))
        self.check('"a\\n"', ("const", ("text", "a\n")))
        self.check('""', ("const", ("text", "")))
        self.check("none", NONE)
        self.check("true", ("const", ("bool", True)))
        self.check("false", ("const", ("bool", False)))

    def test_kinds_of_constants(self):
        self.assertIs(parse_expression("1")[1][1].__class__, int)
        self.assertIs(parse_expression("true")[1][1], True)
        self.assertIs(parse_expression("false")[1][1], False)

    def test_names_and_parentheses(self):
        self.check("a", A)
        self.check("(a)", A)
        self.check("(((a)))", A)
        self.check("((1))", ONE)

    def test_new_array_size(self):
        self.check("new point()", ("new", "point"))
        self.check("array(a)", ("array", A))
        self.check("size(a)", ("size", A))
        self.check("array(size(1))", ("array", ("size", ONE)))
        self.check("array((1))", ("array", ONE))
        self.check("size(a or b)", ("size", ("or", A, B)))

    def test_fields_and_items(self):
        self.check("a.b", ("field", A, "b"))
        self.check("a[b]", ("item", A, B))
        self.check("a.b.c", ("field", ("field", A, "b"), "c"))
        self.check("a[1][2]", ("item", ("item", A, ONE), TWO))
        self.check("a.b[1].c", ("field", ("item", ("field", A, "b"), ONE), "c"))
        self.check("a[b[1]]", ("item", A, ("item", B, ONE)))
        self.check("a[b or c]", ("item", A, ("or", B, C)))

    def test_fields_and_items_of_every_term(self):
        for text, tree in (
            ("1", ONE), ('"x"', ("const", ("text", "x"))), ("none", NONE), ("true", ("const", ("bool", True))),
            ("false", ("const", ("bool", False))), ("a", A), ("(a + b)", ("both", "+", A, B)), ("(-a)", ("minus", A)),
            ("new r()", ("new", "r")), ("array(1)", ("array", ONE)), ("size(a)", ("size", A)),
        ):
            self.check(text + ".f", ("field", tree, "f"))
            self.check(text + "[a]", ("item", tree, A))
            self.check(text + " . f [ a ]", ("item", ("field", tree, "f"), A))


class TestStatements(Case):
    def check(self, text, *block):
        with self.subTest(text=text):
            self.assertEqual(parse(text), ("program", (), (), block))

    def test_var(self):
        self.check("var a = 1;", ("var", 1, "a", ("expr", ONE)))
        self.check("var a = b;", ("var", 1, "a", ("expr", B)))
        self.check("var a = read();", ("var", 1, "a", ("read",)))
        self.check("var a = f();", ("var", 1, "a", ("call", "f", (), False)))
        self.check("var a = f(1);", ("var", 1, "a", ("call", "f", (ONE,), False)))
        self.check("var a = ahead f(1, b);", ("var", 1, "a", ("call", "f", (ONE, B), True)))
        self.check("var a = (b);", ("var", 1, "a", ("expr", B)))
        self.check("var a = b.c;", ("var", 1, "a", ("expr", ("field", B, "c"))))

    def test_set(self):
        self.check("a = 1;", ("set", 1, "a", ("expr", ONE)))
        self.check("a = b == c;", ("set", 1, "a", ("expr", ("both", "==", B, C))))
        self.check("a = read();", ("set", 1, "a", ("read",)))
        self.check("a = f(b);", ("set", 1, "a", ("call", "f", (B,), False)))
        self.check("a = ahead f();", ("set", 1, "a", ("call", "f", (), True)))
        self.check("a = new r();", ("set", 1, "a", ("expr", ("new", "r"))))

    def test_set_field(self):
        self.check("a.b = 1;", ("set_field", 1, A, "b", ONE))
        self.check("a.b.c = none;", ("set_field", 1, ("field", A, "b"), "c", NONE))
        self.check("a[1].b = c;", ("set_field", 1, ("item", A, ONE), "b", C))
        self.check("a.b[1].c = 2;", ("set_field", 1, ("item", ("field", A, "b"), ONE), "c", TWO))

    def test_set_item(self):
        self.check("a[1] = 2;", ("set_item", 1, A, ONE, TWO))
        self.check("a[1][2] = 3;", ("set_item", 1, ("item", A, ONE), TWO, THREE))
        self.check("a.b[c or 1] = b;", ("set_item", 1, ("field", A, "b"), ("or", C, ONE), B))
        self.check("a[b[1]] = (2);", ("set_item", 1, A, ("item", B, ONE), TWO))

    def test_call(self):
        self.check("f();", ("call", 1, "f", (), False))
        self.check("f(1);", ("call", 1, "f", (ONE,), False))
        self.check("f(1, a, (b));", ("call", 1, "f", (ONE, A, B), False))
        self.check("ahead f();", ("call", 1, "f", (), True))
        self.check("ahead f(a or b, 2);", ("call", 1, "f", (("or", A, B), TWO), True))
        self.check("f ( 1 , 2 ) ;", ("call", 1, "f", (ONE, TWO), False))

    def test_if(self):
        p = ("print", 1, ONE)
        q = ("print", 1, TWO)
        self.check("if (a) {}", ("if", 1, A, (), ()))
        self.check("if (a) { print 1; }", ("if", 1, A, (p,), ()))
        self.check("if (a) { print 1; } else { print 2; }", ("if", 1, A, (p,), (q,)))
        self.check("if (a) {} else {}", ("if", 1, A, (), ()))
        self.check("if (a) { print 1; print 2; } else { print 2; print 1; }", ("if", 1, A, (p, q), (q, p)))
        self.check("if ((a)) {} print 1;", ("if", 1, A, (), ()), p)

    def test_if_behind_else(self):
        p = ("print", 1, ONE)
        self.check("if (a) {} else if (b) {}", ("if", 1, A, (), (("if", 1, B, (), ()),)))
        self.check(
            "if (a) {} else if (b) { print 1; } else { print 1; }", ("if", 1, A, (), (("if", 1, B, (p,), (p,)),))
        )
        self.check(
            "if (a) {} else if (b) {} else if (c) {} else { print 1; }",
            ("if", 1, A, (), (("if", 1, B, (), (("if", 1, C, (), (p,)),)),)),
        )
        self.assertEqual(parse("if (a) {} else if (b) {}"), parse("if (a) {} else { if (b) {} }"))
        self.check("if (a) {} else if (b) {} print 1;", ("if", 1, A, (), (("if", 1, B, (), ()),)), p)

    def test_while(self):
        self.check("while (a) {}", ("while", 1, A, ()))
        self.check("while (a < b) { break; }", ("while", 1, ("both", "<", A, B), (("break", 1),)))

    def test_for(self):
        self.check("for (i = 1 to 2) {}", ("for", 1, "i", ONE, TWO, (), False))
        self.check("ahead for (i = a to b) { f(); }", ("for", 1, "i", A, B, (("call", 1, "f", (), False),), True))
        self.check("for (i = a or b to not c) {}", ("for", 1, "i", ("or", A, B), ("not", C), (), False))

    def test_return(self):
        self.check("return;", ("return", 1, NONE))
        self.check("return none;", ("return", 1, NONE))
        self.check("return a;", ("return", 1, A))

    def test_break_throw_print(self):
        self.check("break;", ("break", 1))
        self.check("throw a;", ("throw", 1, A))
        self.check('throw "x";', ("throw", 1, ("const", ("text", "x"))))
        self.check("print a;", ("print", 1, A))
        self.check("print (a);", ("print", 1, A))
        self.check("print -a;", ("print", 1, ("minus", A)))
        self.check("print not a;", ("print", 1, ("not", A)))

    def test_try(self):
        self.check("try {} catch (e) {}", ("try", 1, (), "e", ()))
        self.check(
            "try { print 1; } catch (e) { print 2; }", ("try", 1, (("print", 1, ONE),), "e", (("print", 1, TWO),))
        )

    def test_statements_in_order(self):
        self.check("print 1; print 2; print 3;", ("print", 1, ONE), ("print", 1, TWO), ("print", 1, THREE))

    def test_statements_in_blocks(self):
        self.check(
            "while (a) { for (i = 1 to 2) { try { if (a) { break; } } catch (e) { throw e; } } }",
            ("while", 1, A, (("for", 1, "i", ONE, TWO, (
                ("try", 1, (("if", 1, A, (("break", 1),), ()),), "e", (("throw", 1, ("name", "e")),)),
            ), False),)),
        )


class TestPrograms(Case):
    def test_empty(self):
        for text in ("", " \n", "# nothing"):
            self.assertEqual(parse(text), ("program", (), (), ()))

    def test_records(self):
        self.assertEqual(parse("record r();"), ("program", ((1, "r", ()),), (), ()))
        self.assertEqual(parse("record r(a);"), ("program", ((1, "r", ("a",)),), (), ()))
        self.assertEqual(
            parse("record r(a, b, c);\nrecord s ( a );"),
            ("program", ((1, "r", ("a", "b", "c")), (2, "s", ("a",))), (), ()),
        )

    def test_procedures(self):
        self.assertEqual(parse("proc f() {}"), ("program", (), ((1, "f", (), ()),), ()))
        self.assertEqual(
            parse("proc f(a) { return a; }\nproc g(a, b) {\nf(a); }"),
            (
                "program", (),
                ((1, "f", ("a",), (("return", 1, A),)), (2, "g", ("a", "b"), (("call", 3, "f", (A,), False),))), (),
            ),
        )

    def test_any_order_among_the_statements(self):
        self.assertEqual(
            parse("print 1;\nproc f() {}\nprint 2;\nrecord r(a);\nproc g() {}\nrecord s();\nprint 3;"),
            (
                "program", ((4, "r", ("a",)), (6, "s", ())), ((2, "f", (), ()), (5, "g", (), ())),
                (("print", 1, ONE), ("print", 3, TWO), ("print", 7, THREE)),
            ),
        )

    def test_the_same_name_twice_is_no_fault_of_the_text(self):
        self.assertEqual(parse("record r(a, a);"), ("program", ((1, "r", ("a", "a")),), (), ()))
        self.assertEqual(parse("proc f(a, a) {}"), ("program", (), ((1, "f", ("a", "a"), ()),), ()))

    def test_trees_are_tuples(self):
        def check(part):
            self.assertNotIsInstance(part, list)
            if isinstance(part, tuple):
                for inner in part:
                    check(inner)

        check(parse(
            "record r(a); proc f(a) { return a; } var x = f(1); if (x == 1) { x = 2; } else { x.a = 3; }"
            "while (true) { x[1] = 2; } for (i = 1 to 2) { f(i); } try { throw 1; } catch (e) { print e; }"
        ))

    def test_ahead_is_a_bool(self):
        for text, at in (("f();", 4), ("ahead f();", 4), ("for (i = 1 to 2) {}", 6), ("ahead for (i = 1 to 2) {}", 6)):
            self.assertIs(parse(text)[3][0][at], text.startswith("ahead"))
        for text in ("x = f();", "x = ahead f();", "var x = f();", "var x = ahead f();"):
            self.assertIs(parse(text)[3][0][3][3], "ahead" in text)


class TestLines(Case):
    def check(self, text, *block):
        with self.subTest(text=text):
            self.assertEqual(parse(text)[3], block)

    def test_every_statement(self):
        before = "# first\n\n"
        for text, statement in (
            ("var\na\n=\n1;", ("var", 3, "a", ("expr", ONE))),
            ("a\n=\n1\n;", ("set", 3, "a", ("expr", ONE))),
            ("a\n.\nb = 1;", ("set_field", 3, A, "b", ONE)),
            ("a\n[\n1] = 1;", ("set_item", 3, A, ONE, ONE)),
            ("f\n(\n);", ("call", 3, "f", (), False)),
            ("if\n(a)\n{\n}", ("if", 3, A, (), ())),
            ("while\n(a)\n{\n}", ("while", 3, A, ())),
            ("for\n(i = 1\nto 2) {}", ("for", 3, "i", ONE, TWO, (), False)),
            ("return\n1;", ("return", 3, ONE)),
            ("return\n;", ("return", 3, NONE)),
            ("break\n;", ("break", 3)),
            ("throw\na;", ("throw", 3, A)),
            ("try\n{} catch (e) {}", ("try", 3, (), "e", ())),
            ("print\na;", ("print", 3, A)),
        ):
            self.check(before + text, statement)

    def test_with_ahead(self):
        self.check("\nahead\nf();", ("call", 2, "f", (), True))
        self.check("\nahead\n\nfor (i = 1 to 2) {}", ("for", 2, "i", ONE, TWO, (), True))
        self.check("\nvar a =\nahead\nf();", ("var", 2, "a", ("call", "f", (), True)))
        self.check("\na =\nahead\nf();", ("set", 2, "a", ("call", "f", (), True)))

    def test_in_blocks(self):
        self.check(
            "if (a)\n{\nprint 1; print 1;\n} else\n{\n\nprint 2;\n}",
            ("if", 1, A, (("print", 3, ONE), ("print", 3, ONE)), (("print", 7, TWO),)),
        )
        self.check("while (a) {\nfor (i = 1 to 2) {\nbreak; } }",
                   ("while", 1, A, (("for", 2, "i", ONE, TWO, (("break", 3),), False),)))
        self.check("try {\nprint 1;\n} catch (e) {\nprint 2; }",
                   ("try", 1, (("print", 2, ONE),), "e", (("print", 4, TWO),)))

    def test_if_behind_else(self):
        self.check("if (a) {\n} else\nif (b) {}", ("if", 1, A, (), (("if", 3, B, (), ()),)))
        self.check("if (a) {\n} else if (b) {\n} else if (c) {}",
                   ("if", 1, A, (), (("if", 2, B, (), (("if", 3, C, (), ()),)),)))

    def test_records_and_procedures(self):
        self.assertEqual(parse("\nrecord\nr\n(\na\n)\n;\nproc\n\nf() {\nreturn; }"),
                         ("program", ((2, "r", ("a",)),), ((8, "f", (), (("return", 11, NONE),)),), ()))


if __name__ == "__main__":
    unittest.main()
