"""[d4], [d5]: the faults in names, and their order."""

import unittest

from foretask.errors import NameFault
from foretask.parsing import parse
from foretask.program import compile_tree
from tests.support import Case

HEAD = "record r(f, g);\nproc p(a, b) {}\nvar v = 1;\n"


class NameCase(Case):
    def good(self, text):
        with self.subTest(text=text):
            compile_tree(parse(text))

    def fault(self, text, line, reason):
        self.name_fault(compile_tree, parse(text), line, reason, text)

    def behind_head(self, text, reason):
        """The fault is in the line behind HEAD; a further line must not matter."""
        self.fault(HEAD + text, 4, reason)
        self.fault(HEAD + text + "\nbreak;", 4, reason)
        self.fault("proc other() { for (i = 1 to 2) {} } " + HEAD + text, 4, reason)


class TestDeclarations(NameCase):
    def test_records(self):
        self.fault("record r();\nrecord r();", 2, "record r is declared twice")
        self.fault("record r(a);\nrecord s(a);\n\nrecord\nr(b);", 4, "record r is declared twice")
        self.fault("record r(a, a);", 1, "name a stands twice")
        self.fault("\nrecord r(a, b, c, b, a);", 2, "name b stands twice")
        self.fault("record r(a, b, b, a);", 1, "name b stands twice")
        self.good("record r(a, b); record s(a, b); record R(r);")

    def test_procedures(self):
        self.fault("proc p() {}\nproc p() {}", 2, "procedure p is declared twice")
        self.fault("proc p(a) {}\nproc q(a) {}\nproc p(a, b) {}", 3, "procedure p is declared twice")
        self.fault("proc p(a, a) {}", 1, "name a stands twice")
        self.fault("\n\nproc p(a, b, c, a) {}", 3, "name a stands twice")
        self.fault("proc p(x, y, y, x) {}", 1, "name y stands twice")
        self.good("proc p(a, b) {} proc q(a, b) {} proc P() {}")

    def test_the_same_name_in_other_roles(self):
        self.good("record x(x); proc x(x) {} var x = 1; for (x = 1 to 2) {}")
        self.good("record x(y); record y(x); proc y(x) { var y = x; }")

    def test_declared_twice_comes_before_names_twice(self):
        self.fault("record r(); record r(a, a);", 1, "record r is declared twice")
        self.fault("proc p() {} proc p(a, a) {}", 1, "procedure p is declared twice")

    def test_the_records_in_their_order(self):
        self.fault("record r(a, a);\nrecord r();", 1, "name a stands twice")
        self.fault("record r();\nrecord s(b, b);\nrecord r();", 2, "name b stands twice")
        self.fault("record r();\nrecord r();\nrecord s(b, b);", 2, "record r is declared twice")

    def test_the_procedures_in_their_order(self):
        self.fault("proc p(a, a) {}\nproc p() {}", 1, "name a stands twice")
        self.fault("proc p() {}\nproc q(b, b) {}\nproc p() {}", 2, "name b stands twice")
        self.fault("proc p() {}\nproc p() {}\nproc q(b, b) {}", 2, "procedure p is declared twice")

    def test_records_come_before_procedures(self):
        self.fault("proc p(a, a) {}\nproc p() {}\nrecord r(b, b);", 3, "name b stands twice")
        self.fault("proc p() {}\nproc p() {}\nrecord r();\nrecord r();", 4, "record r is declared twice")

    def test_declarations_come_before_blocks(self):
        self.fault("x = 1;\nrecord r(b, b);", 2, "name b stands twice")
        self.fault("proc q() { x = 1; }\nproc p(a, a) {}", 2, "name a stands twice")
        self.fault("break;\nproc p() {}\nproc p() {}", 3, "procedure p is declared twice")

    def test_procedures_come_before_the_program(self):
        self.fault("x = 1;\nproc p() { y = 1; }", 2, "unknown variable y")
        self.fault("x = 1;\nproc p() { y = 1; }\nproc q() { z = 1; }", 2, "unknown variable y")
        self.fault("x = 1;\nproc p() {}\nproc q() { z = 1; }", 3, "unknown variable z")
        self.fault("x = 1;\nproc p() {}\nbreak;", 1, "unknown variable x")


class TestNames(NameCase):
    def test_unknown_variable(self):
        for text in (
            "print x;", "var y = x;", "v = x;", "v.f = x;", "x.f = 1;", "v[x] = 1;", "v[1] = x;", "x[1] = 1;", "p(x, 1);",
            "p(1, x);", "v = p(x, 1);", "ahead p(1, x);", "v = ahead p(x, 1);", "if (x) {}", "while (x) {}",
            "for (i = x to 2) {}", "for (i = 1 to x) {}", "throw x;", "x = 1;", "x = read();", "x = p(1, 2);",
            "x = ahead p(1, 2);", "v.f.g = x;", "x.f.g = 1;", "x[1].f = 1;",
        ):
            self.behind_head(text, "unknown variable x")

    def test_in_every_part_of_an_expression(self):
        for text in (
            "x", "(x)", "not x", "-x", "x + v", "v + x", "x < v", "v == x", "x & v", "v mod x", "x and v", "v and x", "x or v",
            "v or x", "x.f", "x.f.g", "v[x]", "x[v]", "v[1 + x]", "size(x)", "array(x)", "array(size(-x))", "new r().f[x]",
        ):
            self.behind_head("print " + text + ";", "unknown variable x")

    def test_names_that_are_something_else(self):
        self.behind_head("print r;", "unknown variable r")
        self.behind_head("print f;", "unknown variable f")
        self.behind_head("print p;", "unknown variable p")
        self.behind_head("print a;", "unknown variable a")
        self.behind_head("print V;", "unknown variable V")
        self.behind_head("p = 1;", "unknown variable p")

    def test_counters_have_an_end(self):
        self.behind_head("for (i = 1 to 2) {} print i;", "unknown variable i")
        self.behind_head("for (i = i to 2) {}", "unknown variable i")
        self.behind_head("for (i = 1 to i) {}", "unknown variable i")
        self.behind_head("for (i = 1 to 2) { for (j = 1 to 2) {} print j; }", "unknown variable j")
        self.good("for (i = 1 to 2) { for (j = i to i) { print i + j; } }")
        self.fault("for (i = 1 to 2) { p(); }\nproc p() { print i; }", 2, "unknown variable i")

    def test_variables_of_procedures_are_their_own(self):
        self.fault("proc p(a) { var b = a; }\nproc q() { print b; }", 2, "unknown variable b")
        self.fault("proc p(a) { var b = a; }\nproc q() { a = 1; }", 2, "unknown variable a")
        self.fault("proc p(a) { var b = a; }\nprint b;", 2, "unknown variable b")
        self.fault("proc p(a) {}\na = 1;", 2, "unknown variable a")
        self.good("proc p(a) { print x; x = a; print b; b = 2; if (false) { var b = 1; } } var x = 1;")

    def test_variables_may_be_read_before_they_are_assigned(self):
        self.good("print x; x = 1; var x = 2;")
        self.good("print e; try {} catch (e) {}")
        self.good("var x = x;")

    def test_unknown_field(self):
        for text in (
            "print v.h;", "print v.h.f;", "print v.f.h;", "v.h = 1;", "v.h.f = 1;", "v.f.h = 1;", "v.h[1] = 1;", "print v[v.h];",
            "print size(v.h);", "v.f = v.h;", "p(v.h, 1);", "if (v.h) {}", "print new r().h;",
        ):
            self.behind_head(text, "unknown field h")
        self.behind_head("print v.v;", "unknown field v")
        self.behind_head("print v.r;", "unknown field r")
        self.behind_head("print v.a;", "unknown field a")

    def test_a_field_of_any_record_will_do(self):
        self.good("record r(a); record s(b); var v = new r(); v.b = 1; print v.a; print v.b; print 1.a;")

    def test_unknown_record(self):
        for text in ("print new s();", "var w = new s();", "v.f = new s();", "print new s().f;", "print size(new s());"):
            self.behind_head(text, "unknown record s")
        for name in ("f", "p", "v"):
            self.behind_head("print new " + name + "();", "unknown record " + name)

    def test_unknown_procedure(self):
        for text in ("q();", "v = q();", "var w = q();", "ahead q();", "v = ahead q();", "var w = ahead q(1);", "q(x);"):
            self.behind_head(text, "unknown procedure q")
        for name in ("r", "f", "v"):
            self.behind_head(name + "();", "unknown procedure " + name)
        self.good("p(); proc p() { q(); p(); } proc q() {}")

    def test_numbers_of_arguments(self):
        for text in ("p();", "p(1);", "p(1, 2, 3);", "ahead p(1);", "v = p();", "var w = ahead p(1, 2, 3);", "p(x);",
                     "p(x, y, z);"):
            self.behind_head(text, "p takes 2 arguments")
        self.fault("proc p() {}\np(1);", 2, "p takes 0 arguments")
        self.fault("proc p(a) {}\np();", 2, "p takes 1 arguments")
        self.fault("proc p(" + ", ".join("a%d" % k for k in range(12)) + ") {}\np();", 2, "p takes 12 arguments")
        self.good("proc p(a, b) {} p(1, 2); ahead p(1, 2); proc q() {} q();")

    def test_assigned_counters(self):
        for text in (
            "i = 1;", "i = read();", "i = p(1, 2);", "i = ahead p(1, 2);", "var i = 1;", "var i = read();",
            "var i = p(1, 2);", "try {} catch (i) {}", "if (true) { i = 1; }", "while (true) { i = 1; }",
            "for (j = 1 to 2) { i = 1; }", "for (j = 1 to 2) { var i = j; }",
            "try { i = 1; } catch (e) {}", "try {} catch (e) { i = 1; }",
        ):
            for first in ("for", "ahead for"):
                self.behind_head(first + " (i = 1 to 2) { " + text + " }", "counter i cannot be assigned")
        self.good(HEAD + "var i = 1; i = 2; for (i = i to i) {} i = 3; try {} catch (i) {}")
        self.good(HEAD + "for (i = 1 to 2) { i.f = 1; i[1] = 2; }")
        self.good("proc p() { var i = 1; i = 2; try {} catch (i) {} } for (i = 1 to 2) { p(); }")

    def test_a_counter_that_is_no_variable_cannot_be_assigned(self):
        self.fault("for (i = 1 to 2) { i = 3; }", 1, "counter i cannot be assigned")
        self.fault("for (i = 1 to 2) {\ni = x; }", 2, "unknown variable x")

    def test_counters_in_use(self):
        for text in ("for (i = 1 to 2) {}", "ahead for (i = 1 to 2) {}", "for (j = 1 to 2) { for (i = 1 to 2) {} }",
                     "while (true) { for (i = 1 to 2) {} }", "for (i = i to i) { i = 1; x = 2; }"):
            for first in ("for", "ahead for"):
                self.behind_head(first + " (i = 1 to 2) { " + text + " }", "counter i is in use")
        self.good("for (i = 1 to 2) {} for (i = 1 to 2) { for (j = 1 to 2) {} for (j = 1 to 2) {} }")
        self.good("proc p() { for (i = 1 to 2) {} } for (i = 1 to 2) { p(); }")

    def test_return(self):
        self.fault("return;", 1, "return outside of a procedure")
        self.fault("\nreturn 1;", 2, "return outside of a procedure")
        self.fault("while (true) { if (true) {\nreturn; } }", 2, "return outside of a procedure")
        self.good("proc p() { return; while (true) { for (i = 1 to 2) { return i; } } }")

    def test_break(self):
        self.fault("break;", 1, "break outside of a loop")
        self.fault("\nif (true) {\nbreak; }", 3, "break outside of a loop")
        self.fault("while (true) {} break;", 1, "break outside of a loop")
        self.fault("for (i = 1 to 2) {}\nbreak;", 2, "break outside of a loop")
        self.fault("proc p() {\nbreak; }\nwhile (true) { p(); }", 2, "break outside of a loop")
        self.fault("try {\nbreak; } catch (e) { }", 2, "break outside of a loop")
        self.fault("try {} catch (e) {\nbreak; }", 2, "break outside of a loop")
        self.good("while (true) { break; } for (i = 1 to 2) { break; } ahead for (i = 1 to 2) { break; }")
        self.good("while (true) { if (true) { try { break; } catch (e) { break; } } else { break; } }")
        self.good("proc p() { while (true) { break; } }")


class TestOrder(NameCase):
    def test_the_statements_in_their_order(self):
        self.fault("print x;\nprint y;", 1, "unknown variable x")
        self.fault("if (true) { print x; }\nprint y;", 1, "unknown variable x")
        self.fault("if (true) { if (true) {\nprint x; } print y; } print z;", 2, "unknown variable x")
        self.fault("while (true) {\nprint x; }\nprint y;", 2, "unknown variable x")

    def test_lines(self):
        self.fault("print 1;\nprint\n\nx;", 2, "unknown variable x")
        self.fault("if (true)\n{\n} else\nif (x) {}", 4, "unknown variable x")
        self.fault("var a =\nahead\nq();", 1, "unknown procedure q")
        self.fault("for (i = 1 to\nx) {\n}", 1, "unknown variable x")

    def test_var(self):
        self.behind_head("for (i = 1 to 2) { var i = x; }", "unknown variable x")
        self.behind_head("for (i = 1 to 2) { var i = q(); }", "unknown procedure q")

    def test_set(self):
        self.behind_head("for (i = 1 to 2) { i = x; }", "unknown variable x")
        self.behind_head("y = x;", "unknown variable x")
        self.behind_head("y = q();", "unknown procedure q")
        self.behind_head("y = p(x);", "p takes 2 arguments")
        self.behind_head("y = new s();", "unknown record s")

    def test_set_field(self):
        self.behind_head("x.h = y;", "unknown variable x")
        self.behind_head("v.h = y;", "unknown field h")
        self.behind_head("x[y].h = z;", "unknown variable x")
        self.behind_head("v[y].h = z;", "unknown variable y")
        self.behind_head("v.f = y;", "unknown variable y")

    def test_set_item(self):
        self.behind_head("x[y] = z;", "unknown variable x")
        self.behind_head("v[y] = z;", "unknown variable y")
        self.behind_head("v[1] = z;", "unknown variable z")
        self.behind_head("x.h[y] = z;", "unknown variable x")
        self.behind_head("v.h[y] = z;", "unknown field h")

    def test_calls(self):
        self.behind_head("q(x);", "unknown procedure q")
        self.behind_head("p(x);", "p takes 2 arguments")
        self.behind_head("p(x, y);", "unknown variable x")
        self.behind_head("p(1, y);", "unknown variable y")
        self.behind_head("p(new s(), v.h);", "unknown record s")
        self.behind_head("p(v.h, new s());", "unknown field h")

    def test_if_and_while(self):
        self.behind_head("if (x) { print y; } else { print z; }", "unknown variable x")
        self.behind_head("if (v) { print y; } else { print z; }", "unknown variable y")
        self.behind_head("if (v) {} else { print z; }", "unknown variable z")
        self.behind_head("while (x) { print y; }", "unknown variable x")
        self.behind_head("while (v) { print y; }", "unknown variable y")

    def test_for(self):
        self.behind_head("for (i = 1 to 2) { for (i = x to y) { print z; } }", "unknown variable x")
        self.behind_head("for (i = 1 to 2) { for (i = 1 to y) { print z; } }", "unknown variable y")
        self.behind_head("for (i = 1 to 2) { for (i = 1 to 2) { print z; } }", "counter i is in use")
        self.behind_head("for (i = 1 to 2) { for (j = 1 to 2) { print z; } }", "unknown variable z")

    def test_return(self):
        self.fault("return x;", 1, "return outside of a procedure")
        self.fault("proc p() { return x; }", 1, "unknown variable x")

    def test_throw_print(self):
        self.behind_head("throw x + y;", "unknown variable x")
        self.behind_head("print x + y;", "unknown variable x")

    def test_try(self):
        text = "for (i = 1 to 2) { try { print x; } catch (i) { print y; } }"
        self.behind_head(text, "unknown variable x")
        self.behind_head(text.replace("x", "v"), "counter i cannot be assigned")
        self.behind_head(text.replace("x", "v").replace("(i) {", "(e) {"), "unknown variable y")

    def test_expressions_from_left_to_right(self):
        self.behind_head("print x.h;", "unknown variable x")
        self.behind_head("print v.h + x;", "unknown field h")
        self.behind_head("print x + v.h;", "unknown variable x")
        self.behind_head("print new s().h;", "unknown record s")
        self.behind_head("print v[new s()].h;", "unknown record s")
        self.behind_head("print v.h[x];", "unknown field h")
        self.behind_head("print x[v.h];", "unknown variable x")
        self.behind_head("print not (x and y);", "unknown variable x")
        self.behind_head("print v or (x.h) or y;", "unknown variable x")
        self.behind_head("print 1 + 2 * x - y;", "unknown variable x")
        self.behind_head("print v.h.k;", "unknown field h")
        self.behind_head("print x == y;", "unknown variable x")


class TestTooLong(NameCase):
    # enter and halt are 2 instructions, and print 1; is 2.
    def test_at_the_bound(self):
        program = compile_tree(parse("print 1;" * 999))
        self.assertEqual((len(program.code), len(program.lines)), (2000, 2000))

    def test_one_beyond(self):
        self.fault("print 1;" * 998 + "print-1;", 0, "program too long")
        self.fault("print 1;" * 1000, 0, "program too long")
        self.fault("x=1;" * 1990 + "var x=1;", 0, "program too long")

    def test_procedures_count(self):
        # A procedure without parameters has 2 instructions, and one for each parameter.
        good = "proc f(a) {}" + "var x=1;" + "x=1;" * 996
        self.assertEqual(len(compile_tree(parse(good)).code), 1999)
        self.good(good.replace("(a)", "(a, b)"))
        self.fault(good.replace("(a)", "(a, b, c)"), 0, "program too long")

    def test_comes_last(self):
        text = "var x=1;" + "x=1;" * 1200
        self.fault(text, 0, "program too long")
        self.fault(text + "\ny = 1;", 2, "unknown variable y")
        self.fault(text + "\nbreak;", 2, "break outside of a loop")
        self.fault(text + "\nproc p(a, a) {}", 2, "name a stands twice")


class TestNoFault(NameCase):
    def test_programs(self):
        self.good("")
        self.good(HEAD)
        self.good(
            "record list(value, rest);\nproc push(list, value) {\n  var head = new list();\n  head.value = value;\n"
            "  head.rest = list;\n  return head;\n}\nvar all = none;\nahead for (i = 1 to 9) {\n  all = push(all, i * i);\n}\n"
            "while (all != none) {\n  print all.value;\n  all = all.rest;\n  if (all == 3) {\n    break;\n  }\n}\n"
            "try {\n  throw \"x\";\n} catch (e) {\n  print e;\n}\n"
        )

    def test_the_tree_is_not_changed_and_may_be_used_again(self):
        tree = parse(HEAD + "v = p(1, 2);")
        first = compile_tree(tree)
        second = compile_tree(tree)
        self.assertEqual(first.code, second.code)
        self.assertEqual(tree, parse(HEAD + "v = p(1, 2);"))

    def test_a_fault_leaves_nothing_behind(self):
        with self.assertRaises(NameFault):
            compile_tree(parse("print x;"))
        self.good("var x = 1; print x;")


if __name__ == "__main__":
    unittest.main()
