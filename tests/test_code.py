"""[d6] to [d9], [c9], [c10], the last sentence of [p5]: the code of programs."""

import unittest

from foretask.parsing import parse
from foretask.program import Program, compile_tree
from tests.support import Case

HEAD = "record r(f, g); proc p() {} proc q(a, b) {} var v = 0; var w = 0; "
# The tail of every program with HEAD: halt, and the two procedures.
TAIL = [("halt",), ("push", ("none",)), ("return",), ("store", ("own", 1)), ("store", ("own", 0)), ("push", ("none",)),
        ("return",)]
V = ("load", ("top", 0))
W = ("load", ("top", 1))


def number(n):
    return ("push", ("int", n))


def text(s):
    return ("push", ("text", s))


TRUE = ("push", ("bool", True))


class CodeCase(Case):
    def code_of(self, source):
        """Returns the code of a statement in a program with HEAD, its addresses counted from its first one."""
        program = compile_tree(parse(HEAD + source))
        self.assertEqual(program.code[:5], (("enter",), number(0), ("store", ("top", 0)), number(0), ("store", ("top", 1))))
        self.assertEqual(list(program.code[-len(TAIL):]), TAIL)
        found = []
        for step in program.code[5:-len(TAIL)]:
            if step[0] in ("jump", "jump_not", "and_jump", "or_jump", "guard", "loop", "each", "test", "next", "spawn"):
                step = (step[0], step[1] - 5)
            found.append(step)
        return found

    def statement(self, source, *code):
        with self.subTest(source=source):
            self.assertEqual(self.code_of(source), list(code))

    def expression(self, source, *code):
        self.statement("print " + source + ";", *code, ("print",))


class TestExpressions(CodeCase):
    def test_constants(self):
        self.expression("1", number(1))
        self.expression("007", number(7))
        self.expression('"a\\n"', text("a\n"))
        self.expression("none", ("push", ("none",)))
        self.expression("true", ("push", ("bool", True)))
        self.expression("false", ("push", ("bool", False)))

    def test_variables(self):
        self.expression("v", V)
        self.expression("w", W)

    def test_not_and_minus(self):
        self.expression("not v", V, ("not",))
        self.expression("-v", V, ("minus",))
        self.expression("-1", number(1), ("minus",))
        self.expression("not not v", V, ("not",), ("not",))
        self.expression("not --v", V, ("minus",), ("minus",), ("not",))

    def test_operators_with_two_operands(self):
        for operator in ("+", "-", "*", "/", "mod", "&", "<", "<=", "=="):
            self.expression("v " + operator + " w", V, W, ("both", operator))
            self.expression("1 " + operator + " v", number(1), V, ("both", operator))
        for operator, other in ((">", "<="), (">=", "<"), ("!=", "==")):
            self.expression("v " + operator + " w", V, W, ("both", other), ("not",))

    def test_nested_operators(self):
        self.expression("v + 2 * w", V, number(2), W, ("both", "*"), ("both", "+"))
        self.expression("(v + 2) * w", V, number(2), ("both", "+"), W, ("both", "*"))
        self.expression("v - 1 > -w", V, number(1), ("both", "-"), W, ("minus",), ("both", "<="), ("not",))

    def test_and_or(self):
        self.expression("v and w", V, ("and_jump", 3), W)
        self.expression("v or w", V, ("or_jump", 3), W)
        self.expression("v or w or 1", V, ("or_jump", 3), W, ("or_jump", 5), number(1))
        self.expression("v or (w or 1)", V, ("or_jump", 5), W, ("or_jump", 5), number(1))
        self.expression("v and w or 1 and 2", V, ("and_jump", 3), W, ("or_jump", 7), number(1), ("and_jump", 7), number(2))
        self.expression("not (v and w)", V, ("and_jump", 3), W, ("not",))
        self.expression("(v or w) + 1", V, ("or_jump", 3), W, number(1), ("both", "+"))

    def test_fields_and_items(self):
        self.expression("v.f", V, ("kind",), ("field", "f"))
        self.expression("v.f.g", V, ("kind",), ("field", "f"), ("kind",), ("field", "g"))
        self.expression("v[w]", V, ("kind",), W, ("item",))
        self.expression("v[1][2]", V, ("kind",), number(1), ("item",), ("kind",), number(2), ("item",))
        self.expression("v[w[1]].f", V, ("kind",), W, ("kind",), number(1), ("item",), ("item",), ("kind",), ("field", "f"))

    def test_size_new_array(self):
        self.expression("size(v)", V, ("size",), ("sized",))
        self.expression("size(v) + 1", V, ("size",), ("sized",), number(1), ("both", "+"))
        self.expression("new r()", ("make",), ("tag", "r"))
        self.expression("new r().f", ("make",), ("tag", "r"), ("kind",), ("field", "f"))
        self.expression("array(3)", number(3), ("check_size",), ("make",), ("tag_size",))
        self.expression("array(size(v))", V, ("size",), ("sized",), ("check_size",), ("make",), ("tag_size",))

    def test_counters(self):
        self.statement("for (i = 1 to 2) { print i; }", number(1), number(2), ("each", 8), ("test", 7), ("counter", 0),
                       ("print",), ("next", 3), ("end_loop",))
        code = self.code_of("for (i = 1 to 2) { while (i < 2) { for (j = i to 2) { print i + j; } } }")
        self.assertEqual([step for step in code if step[0] == "counter"],
                         [("counter", 0), ("counter", 0), ("counter", 1), ("counter", 0)])

    def test_negative_constants_of_trees(self):
        tree = ("program", (), (), (("print", 1, ("const", ("int", -5))),))
        self.assertEqual(compile_tree(tree).code, (("enter",), number(-5), ("print",), ("halt",)))


class TestStatements(CodeCase):
    def test_var_and_set(self):
        for first in ("var v = ", "v = "):
            self.statement(first + "1;", number(1), ("store", ("top", 0)))
            self.statement(first + "w and 1;", W, ("and_jump", 3), number(1), ("store", ("top", 0)))
            self.statement(first + "read();", ("input",), ("store", ("top", 0)))
            self.statement(first + "p();", ("call", 0, 0), ("store", ("top", 0)))
            self.statement(first + "q(1, w);", number(1), W, ("call", 1, 2), ("store", ("top", 0)))
            self.statement(first + "ahead p();", ("spawn", 4), ("call", 0, 0), ("store", ("top", 0)), ("finish",))
            self.statement(first + "ahead q(v or w, 2);", ("spawn", 8), V, ("or_jump", 4), W, number(2), ("call", 1, 2),
                           ("store", ("top", 0)), ("finish",))

    def test_call(self):
        self.statement("p();", ("call", 0, 0), ("drop",))
        self.statement("q(w, 1);", W, number(1), ("call", 1, 2), ("drop",))
        self.statement("q(v and w, 1);", V, ("and_jump", 3), W, number(1), ("call", 1, 2), ("drop",))
        self.statement("ahead p();", ("spawn", 4), ("call", 0, 0), ("drop",), ("finish",))
        self.statement("ahead q(1, 2);", ("spawn", 6), number(1), number(2), ("call", 1, 2), ("drop",), ("finish",))

    def test_set_field_and_set_item(self):
        self.statement("v.f = 1;", V, ("kind",), number(1), ("set_field", "f"))
        self.statement("v.f.g = w;", V, ("kind",), ("field", "f"), ("kind",), W, ("set_field", "g"))
        self.statement("v[1].g = w;", V, ("kind",), number(1), ("item",), ("kind",), W, ("set_field", "g"))
        self.statement("v[1] = 2;", V, ("kind",), number(1), number(2), ("set_item",))
        self.statement("v.f[w] = v[2];", V, ("kind",), ("field", "f"), ("kind",), W, V, ("kind",), number(2), ("item",),
                       ("set_item",))

    def test_if(self):
        one = (number(1), ("print",))
        two = (number(2), ("print",))
        self.statement("if (v) { print 1; } else { print 2; }", V, ("jump_not", 5), *one, ("jump", 7), *two)
        self.statement("if (v) { print 1; }", V, ("jump_not", 5), *one, ("jump", 5))
        self.statement("if (v) {} else { print 2; }", V, ("jump_not", 3), ("jump", 5), *two)
        self.statement("if (v) {}", V, ("jump_not", 3), ("jump", 3))
        self.statement("if (v or w) {}", V, ("or_jump", 3), W, ("jump_not", 5), ("jump", 5))
        self.statement("if (v) { print 1; } else if (w) { print 2; } else { print 1; }",
                       V, ("jump_not", 5), *one, ("jump", 12), W, ("jump_not", 10), *two, ("jump", 12), *one)

    def test_while(self):
        self.statement("while (v) { print 1; }", ("loop", 7), V, ("jump_not", 6), number(1), ("print",), ("jump", 1),
                       ("end_loop",))
        self.statement("while (v) {}", ("loop", 5), V, ("jump_not", 4), ("jump", 1), ("end_loop",))
        self.statement("while (v and w) { break; }", ("loop", 8), V, ("and_jump", 4), W, ("jump_not", 7), ("break",),
                       ("jump", 1), ("end_loop",))

    def test_for(self):
        self.statement("for (i = 1 to 2) {}", number(1), number(2), ("each", 6), ("test", 5), ("next", 3), ("end_loop",))
        self.statement("for (i = v to w) { print 1; }", V, W, ("each", 8), ("test", 7), number(1), ("print",), ("next", 3),
                       ("end_loop",))
        self.statement("for (i = v or w to 2) { break; }", V, ("or_jump", 3), W, number(2), ("each", 9), ("test", 8),
                       ("break",), ("next", 5), ("end_loop",))

    def test_for_with_ahead(self):
        self.statement("ahead for (i = 1 to 2) { print i; }", number(1), number(2), ("each", 10), ("test", 9), ("spawn", 8),
                       ("counter", 0), ("print",), ("finish",), ("next", 3), ("end_loop",))
        self.statement("ahead for (i = 1 to 2) {}", number(1), number(2), ("each", 8), ("test", 7), ("spawn", 6),
                       ("finish",), ("next", 3), ("end_loop",))

    def test_for_with_ahead_in_its_block(self):
        self.statement("for (i = 1 to 2) { ahead p(); }", number(1), number(2), ("each", 10), ("test", 9), ("spawn", 8),
                       ("call", 0, 0), ("drop",), ("finish",), ("next", 3), ("end_loop",))
        self.statement("ahead for (i = 1 to 2) { v = ahead p(); }", number(1), number(2), ("each", 12), ("test", 11),
                       ("spawn", 10), ("spawn", 9), ("call", 0, 0), ("store", ("top", 0)), ("finish",), ("finish",),
                       ("next", 3), ("end_loop",))

    def test_return_throw_print_break(self):
        self.statement("throw v;", V, ("throw",))
        self.statement("print v + 1;", V, number(1), ("both", "+"), ("print",))
        for source, code in (("return v;", (V, ("return",))), ("return;", (("push", ("none",)), ("return",)))):
            program = compile_tree(parse("var v = 1; proc f() { " + source + " }"))
            self.assertEqual(program.code[4:], code + (("push", ("none",)), ("return",)))

    def test_try(self):
        self.statement("try { print 1; } catch (v) { print 2; }", ("guard", 5), number(1), ("print",), ("unguard",),
                       ("jump", 8), ("store", ("top", 0)), number(2), ("print",))
        self.statement("try {} catch (w) {}", ("guard", 3), ("unguard",), ("jump", 4), ("store", ("top", 1)))
        self.statement("try {} catch (e) { print e; }", ("guard", 3), ("unguard",), ("jump", 6), ("store", ("top", 2)),
                       ("load", ("top", 2)), ("print",))
        self.statement("try { try {} catch (v) {} } catch (w) {}", ("guard", 7), ("guard", 4), ("unguard",), ("jump", 5),
                       ("store", ("top", 0)), ("unguard",), ("jump", 8), ("store", ("top", 1)))

    def test_one_behind_the_other(self):
        self.statement("if (v) {} while (w) {} try {} catch (v) {} ahead p();",
                       V, ("jump_not", 3), ("jump", 3), ("loop", 8), W, ("jump_not", 7), ("jump", 4), ("end_loop",),
                       ("guard", 11), ("unguard",), ("jump", 12), ("store", ("top", 0)),
                       ("spawn", 16), ("call", 0, 0), ("drop",), ("finish",))

    def test_parts_without_instructions_at_the_end_of_a_block(self):
        self.statement("while (v) { if (w) {} }", ("loop", 8), V, ("jump_not", 7), W, ("jump_not", 6), ("jump", 6),
                       ("jump", 1), ("end_loop",))
        self.statement("if (v) { if (w) {} else {} } else {}", V, ("jump_not", 6), W, ("jump_not", 5), ("jump", 5),
                       ("jump", 6))


class TestInsideLoopsAndProcedures(CodeCase):
    def test_loops_in_loops(self):
        self.statement("while (v) { for (i = 1 to 2) { break; } break; }",
                       ("loop", 13), V, ("jump_not", 12), number(1), number(2), ("each", 10), ("test", 9), ("break",),
                       ("next", 6), ("end_loop",), ("break",), ("jump", 1), ("end_loop",))
        self.statement("for (i = 1 to 2) { ahead for (j = i to 2) { print i; } }",
                       number(1), number(2), ("each", 16), ("test", 15),
                       ("counter", 0), number(2), ("each", 14), ("test", 13), ("spawn", 12), ("counter", 1), ("print",),
                       ("finish",), ("next", 7), ("end_loop",), ("next", 3), ("end_loop",))

    def test_every_statement_in_a_procedure(self):
        program = compile_tree(parse(
            "var t = 1; proc f(a) { var b = a; t = b; a.g = 1; a[0] = t; ahead f(a); b = ahead f(1); if (a) { return; }"
            "while (t) { break; } ahead for (i = a to b) { b = i; } try { throw a; } catch (c) { print c; } } record r(g);"
        ))
        own = [("load", ("own", k)) for k in range(3)]
        top = ("load", ("top", 0))
        self.assertEqual(program.variables, ("t",))
        self.assertEqual(program.procedures, (("f", ("a", "b", "c"), 4),))
        self.assertEqual(program.code, (
            ("enter",), number(1), ("store", ("top", 0)), ("halt",),
            ("store", ("own", 0)),
            own[0], ("store", ("own", 1)),
            own[1], ("store", ("top", 0)),
            own[0], ("kind",), number(1), ("set_field", "g"),
            own[0], ("kind",), number(0), top, ("set_item",),
            ("spawn", 23), own[0], ("call", 0, 1), ("drop",), ("finish",),
            ("spawn", 28), number(1), ("call", 0, 1), ("store", ("own", 1)), ("finish",),
            own[0], ("jump_not", 33), ("push", ("none",)), ("return",), ("jump", 33),
            ("loop", 39), top, ("jump_not", 38), ("break",), ("jump", 34), ("end_loop",),
            own[0], own[1], ("each", 49), ("test", 48), ("spawn", 47), ("counter", 0), ("store", ("own", 1)), ("finish",),
            ("next", 42), ("end_loop",),
            ("guard", 54), own[0], ("throw",), ("unguard",), ("jump", 57), ("store", ("own", 2)), own[2], ("print",),
            ("push", ("none",)), ("return",),
        ))


class TestPrograms(Case):
    def test_empty(self):
        program = compile_tree(parse(""))
        self.assertEqual(program.code, (("enter",), ("halt",)))
        self.assertEqual(program.lines, (0, 0))
        self.assertEqual((program.records, program.variables, program.procedures), ((), (), ()))
        self.assertEqual(program.listing(), ((0, "enter"), (0, "halt")))

    def test_procedures(self):
        program = compile_tree(parse(
            "proc none0() {}\nproc one(a) {}\nproc three(a, b, c) { var d = b; }\nprint 1;\nproc last() { return 2; }"
        ))
        end = (("push", ("none",)), ("return",))
        self.assertEqual(program.code, (
            ("enter",), number(1), ("print",), ("halt",),
            *end,
            ("store", ("own", 0)), *end,
            ("store", ("own", 2)), ("store", ("own", 1)), ("store", ("own", 0)), ("load", ("own", 1)), ("store", ("own", 3)),
            *end,
            number(2), ("return",), *end,
        ))
        self.assertEqual(program.lines, (0, 4, 4, 0, 0, 0, 0, 0, 0, 0, 0, 0, 3, 3, 0, 0, 5, 5, 0, 0))
        self.assertEqual(program.procedures, (
            ("none0", (), 4), ("one", ("a",), 6), ("three", ("a", "b", "c", "d"), 9), ("last", (), 16),
        ))

    def test_the_numbers_of_calls(self):
        program = compile_tree(parse("proc b() { a(); } c(); proc a() { b(); } proc c() {} a(); b();"))
        self.assertEqual([step for step in program.code if step[0] == "call"],
                         [("call", 2, 0), ("call", 1, 0), ("call", 0, 0), ("call", 1, 0), ("call", 0, 0)])

    def test_fields(self):
        program = compile_tree(parse(
            "var z = 1; record r(f, g); record s(); proc p(b, a) { var z = 1; try {} catch (e) {} } var y = 2; z = 3;"
        ))
        self.assertEqual(program.records, (("r", ("f", "g")), ("s", ())))
        self.assertEqual(program.variables, ("z", "y"))
        self.assertEqual(program.procedures, (("p", ("b", "a", "z", "e"), 8),))
        self.assertEqual(len(program.code), len(program.lines))
        for field in (program.code, program.lines, program.records, program.variables, program.procedures):
            self.assertIsInstance(field, tuple)
        for step in program.code:
            self.assertIsInstance(step, tuple)

    def test_fields_by_position(self):
        program = Program((("enter",),), (0,), (("r", ()),), ("v",), (("p", (), 1),))
        self.assertEqual(
            (program.code, program.lines, program.records, program.variables, program.procedures),
            ((("enter",),), (0,), (("r", ()),), ("v",), (("p", (), 1),)),
        )
        self.assertEqual(sorted(vars(program)), ["code", "lines", "procedures", "records", "variables"])

    def test_the_example_of_the_document(self):
        source = "var total = 0;\nproc add(n) { total = total + n; }\nahead add(1);\nahead add(2);\nprint total;\n"
        program = compile_tree(parse(source))
        self.assertEqual(program.listing(), (
            (0, "enter"), (1, "push 0"), (1, "store top 0"), (3, "spawn 8"), (3, "push 1"), (3, "call add 1"), (3, "drop"),
            (3, "finish"), (4, "spawn 13"), (4, "push 2"), (4, "call add 1"), (4, "drop"), (4, "finish"), (5, "load top 0"),
            (5, "print"), (0, "halt"), (0, "store own 0"), (2, "load top 0"), (2, "load own 0"), (2, "both +"),
            (2, "store top 0"), (0, "push none"), (0, "return"),
        ))


class TestLines(Case):
    def check(self, source, lines):
        with self.subTest(source=source):
            self.assertEqual(compile_tree(parse(source)).lines, (0,) + lines + (0,))

    def test_statements(self):
        self.check("var a = 1;\na = 2;\n\nprint a;", (1, 1, 2, 2, 4, 4))
        self.check("\nvar\na =\n1;", (2, 2))
        self.check("print 1; print 2;\nprint\n3 or\n4;", (1, 1, 1, 1, 2, 2, 2, 2))

    def test_if(self):
        self.check("if (\ntrue) {\nprint 1; } else {\nprint 2; }\nprint 3;", (1, 1, 3, 3, 1, 4, 4, 5, 5))
        self.check("if (true) {\n} else\nif (false) {\nprint 1; }", (1, 1, 1, 3, 3, 4, 4, 3))

    def test_loops(self):
        self.check("\nwhile (\ntrue)\n{\nbreak;\n}", (2, 2, 2, 5, 2, 2))
        self.check("for (i = 1 to\n2) {\nprint i;\n}", (1, 1, 1, 1, 3, 3, 1, 1))
        self.check("ahead\nfor (i = 1 to 2) {\nprint i;\n}", (1, 1, 1, 1, 1, 3, 3, 1, 1, 1))
        self.check("while (true) {\nfor (i = 1 to 2) {\nwhile (false) {\n} } }",
                   (1, 1, 1, 2, 2, 2, 2, 3, 3, 3, 3, 3, 2, 2, 1, 1))

    def test_try(self):
        self.check("try {\nprint 1;\n} catch (e) {\nprint e; }", (1, 2, 2, 1, 1, 1, 4, 4))

    def test_ahead(self):
        source = "proc p() {}\nvar v = 1;\n\nahead\np();\nv =\nahead p();\nvar v =\nahead\np();"
        self.assertEqual(compile_tree(parse(source)).lines,
                         (0, 2, 2, 4, 4, 4, 4, 6, 6, 6, 6, 8, 8, 8, 8, 0, 0, 0))

    def test_procedures(self):
        source = "proc f(a,\nb) {\nreturn a; }\nproc g() {\n\nif (true) { g(); }\n}"
        self.assertEqual(compile_tree(parse(source)).lines, (0, 0, 0, 0, 3, 3, 0, 0, 6, 6, 6, 6, 6, 0, 0))


class TestOperandsOfCode(Case):
    """[p5]: in the code of compile_tree no jump leads out of the code, and each loop and guard has its end."""

    SOURCE = (
        "record r(f); proc p(a) { while (a) { if (a) { return a; } else { break; } } try { p(1); } catch (e) { throw e; } }"
        "ahead for (i = 1 to 3) { ahead p(i); for (j = 1 to i) { if (i == j) {} else if (true and i < j) { break; } } }"
        "var x = ahead p(new r()); while (not x) { x = array(2)[1] or size(x) == 1; } try {} catch (x) {}"
    )

    def test_addresses(self):
        program = compile_tree(parse(self.SOURCE))
        named = {"jump_not": None, "loop": None, "each": None, "test": "end_loop", "next": "test", "spawn": None}
        for step in program.code:
            if step[0] in ("jump", "and_jump", "or_jump", "guard") or step[0] in named:
                self.assertTrue(0 <= step[1] < len(program.code))
            if named.get(step[0]):
                self.assertEqual(program.code[step[1]][0], named[step[0]])
            if step[0] in ("loop", "each"):
                self.assertEqual(program.code[step[1] - 1][0], "end_loop")
            if step[0] == "guard":
                self.assertEqual(program.code[step[1]][0], "store")
        names = [step[0] for step in program.code]
        self.assertEqual(names.count("guard"), names.count("unguard"))
        self.assertEqual(names.count("loop") + names.count("each"), names.count("end_loop"))
        self.assertEqual(names.count("spawn"), names.count("finish"))


class TestListing(Case):
    def test_every_instruction(self):
        rows = (
            (("push", ("none",)), "push none"), (("push", ("bool", True)), "push true"),
            (("push", ("bool", False)), "push false"), (("push", ("int", 0)), "push 0"), (("push", ("int", 12)), "push 12"),
            (("push", ("int", -12)), "push -12"), (("push", ("text", "")), 'push ""'),
            (("push", ("text", 'a "b"\n\\')), 'push "a \\"b\\"\\n\\\\"'), (("push", ("text", "own")), 'push "own"'),
            (("load", ("own", 0)), "load own 0"), (("load", ("top", 13)), "load top 13"),
            (("store", ("own", 2)), "store own 2"), (("store", ("top", 0)), "store top 0"), (("counter", 0), "counter 0"),
            (("counter", 3), "counter 3"), (("not",), "not"), (("minus",), "minus"), (("both", "+"), "both +"),
            (("both", "-"), "both -"), (("both", "*"), "both *"), (("both", "/"), "both /"), (("both", "mod"), "both mod"),
            (("both", "&"), "both &"), (("both", "<"), "both <"), (("both", "<="), "both <="), (("both", "=="), "both =="),
            (("jump", 0), "jump 0"), (("jump_not", 17), "jump_not 17"), (("and_jump", 5), "and_jump 5"),
            (("or_jump", 6), "or_jump 6"), (("kind",), "kind"), (("field", "f"), "field f"), (("item",), "item"),
            (("size",), "size"), (("sized",), "sized"), (("make",), "make"), (("tag", "point"), "tag point"),
            (("check_size",), "check_size"), (("tag_size",), "tag_size"), (("set_field", "g"), "set_field g"),
            (("set_item",), "set_item"), (("call", 0, 2), "call first 2"), (("call", 1, 0), "call second 0"),
            (("return",), "return"), (("drop",), "drop"), (("print",), "print"), (("input",), "input"),
            (("throw",), "throw"), (("guard", 9), "guard 9"), (("unguard",), "unguard"), (("end_loop",), "end_loop"),
            (("loop", 1999), "loop 1999"), (("each", 4), "each 4"), (("test", 5), "test 5"), (("next", 6), "next 6"),
            (("break",), "break"), (("spawn", 8), "spawn 8"), (("finish",), "finish"), (("halt",), "halt"),
            (("enter",), "enter"),
        )
        code = tuple(step for step, _ in rows)
        lines = tuple(range(len(rows)))
        program = Program(code, lines, (), (), (("first", ("a", "b"), 3), ("second", (), 7)))
        listing = program.listing()
        self.assertIsInstance(listing, tuple)
        self.assertEqual(len(listing), len(rows))
        for at, (step, shown) in enumerate(rows):
            with self.subTest(step=step):
                self.assertEqual(listing[at], (at, shown))

    def test_of_a_compiled_program(self):
        program = compile_tree(parse('proc f(a) {}\nf("x");\nprint new r().g;\nrecord r(g);\nprint -1;'))
        self.assertEqual(program.listing(), (
            (0, "enter"), (2, 'push "x"'), (2, "call f 1"), (2, "drop"), (3, "make"), (3, "tag r"), (3, "kind"), (3, "field g"),
            (3, "print"), (5, "push 1"), (5, "minus"), (5, "print"), (0, "halt"), (0, "store own 0"), (0, "push none"),
            (0, "return"),
        ))
        for pair in program.listing():
            self.assertIsInstance(pair, tuple)


if __name__ == "__main__":
    unittest.main()
