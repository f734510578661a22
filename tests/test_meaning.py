"""[m1] to [m8], and [m9] for each of these programs: what programs do."""

import unittest

from foretask.direct import meaning
from foretask.parsing import parse
from foretask.program import compile_tree
from foretask.serial import Serial, serial_step
from foretask.without import without_ahead
from tests.support import FALSE, NONE, TRUE, Case, integer, text_value

ENOUGH = 10000
DONE = ("done",)
HEAD = "record pair(a, b); record one(b); "


def value_of_python(value):
    """Returns the value of a program that stands for one of Python's."""
    if value is None:
        return NONE
    if isinstance(value, bool):
        return TRUE if value else FALSE
    return integer(value) if isinstance(value, int) else text_value(value)


def run_to_end(program, inputs):
    """Returns what the sequential run of a program that ends gives."""
    run = Serial(program, inputs)
    while serial_step(run):
        if run.moment > 50000:
            raise AssertionError("the run does not end")
    return (run.ended, tuple(run.out), tuple(run.left))


class MeaningCase(Case):
    def check(self, text, out, failed=False, inputs=(), left=()):
        """The run gives this output and this rest of the input; failed is its exception, False if it has none. The
        sequential run does the same, with ahead and without it."""
        with self.subTest(text=text):
            tree = parse(HEAD + text)
            ended = DONE if failed is False else ("failed", value_of_python(failed))
            wanted = (ended, tuple(value_of_python(value) for value in out), tuple(value_of_python(value) for value in left))
            given = [value_of_python(value) for value in inputs]
            self.assertEqual(meaning(tree, given, ENOUGH), wanted)
            self.assertEqual(given, [value_of_python(value) for value in inputs])
            bare = without_ahead(tree)
            self.assertEqual(meaning(bare, tuple(given), ENOUGH), wanted)
            self.assertEqual(run_to_end(compile_tree(tree), given), wanted)
            self.assertEqual(run_to_end(compile_tree(bare), given), wanted)

    def value(self, expression, wanted):
        """The expression has this value."""
        self.check("print " + expression + ";", [wanted])

    def error(self, expression, words):
        """The evaluation of the expression throws these words, and nothing behind it happens."""
        self.check("print 1; print " + expression + "; print 2;", [1], words)


class TestNames(MeaningCase):
    def test_never_assigned(self):
        self.check("if (false) { var v = 1; } print v; v = 2; print v;", [None, 2])
        self.check("proc p(a) { print x; print a; var x = 3; print x; } p(1); p(none);", [None, 1, 3, None, None, 3])
        self.value("new pair().a", None)
        self.check("var a = array(2); print a[0]; print a[1];", [None, None])

    def test_variables_of_each_call(self):
        self.check("proc p(n) { var x = n; if (0 < n) { p(n - 1); } print x; print n; } p(2);", [0, 0, 1, 1, 2, 2])
        self.check("proc p(n) { var x = n; return x; } var x = 9; var y = p(4); print x; print y;", [9, 4])

    def test_variables_of_the_program_exist_once(self):
        self.check("var x = 1; proc p() { x = x + 1; q(); } proc q() { x = x * 10; } p(); print x; p(); print x;", [20, 210])

    def test_counters_come_first(self):
        self.check("var i = 7; for (i = 1 to 2) { print i; } print i;", [1, 2, 7])
        self.check("var i = 7; for (j = i to 8) { for (i = j to 8) { print i; } print i; }", [7, 8, 7, 8, 7])
        self.check("proc p(i) { for (i = i to i + 1) { print i; } print i; } p(5);", [5, 6, 5])
        self.check("for (i = 1 to 2) { p(i); } proc p(n) { print i; print n; i = n; } var i = 0; print i;",
                   [None, 1, 1, 2, 0])

    def test_a_name_of_the_procedure_comes_before_that_of_the_program(self):
        self.check("var x = 1; proc p(x) { x = 5; print x; } p(2); print x;", [5, 1])

    def test_several_things_of_one_name(self):
        self.check("proc one(one) { var two = new one(); two.b = one; return two; } var pair = one(3); print pair.b;", [3])


class TestExpressions(MeaningCase):
    def test_constants(self):
        for shown, value in (("none", None), ("true", True), ("false", False), ("0", 0), ("007", 7), ("9" * 60, 10 ** 60 - 1),
                             ("\"\"", ""), ("\"a\\n\\\"\\\\\"", "a\n\"\\")):
            self.value(shown, value)

    def test_or_and_and(self):
        for a in (True, False):
            for b, value in (("true", True), ("false", False), ("7", 7), ("none", None), ("\"t\"", "t")):
                word = "true" if a else "false"
                self.value(word + " or " + b, True if a else value)
                self.value(word + " and " + b, value if a else False)
        self.value("true or 1 / 0 == 1", True)
        self.value("false and 1 / 0 == 1", False)
        self.error("false or 1 / 0 == 1", "division by zero")
        self.error("true and 1 / 0 == 1", "division by zero")
        for other in ("1", "none", "\"true\"", "new pair()"):
            self.error(other + " or 1 / 0", "kind")
            self.error(other + " and 1 / 0", "kind")

    def test_not_and_minus(self):
        self.value("not true", False)
        self.value("not not true", True)
        self.value("-3", -3)
        self.value("- - 3", 3)
        self.value("-(2 - 5)", 3)
        for other in ("1", "none", "\"a\"", "new pair()"):
            self.error("not " + other, "kind")
        for other in ("true", "none", "\"a\"", "new pair()"):
            self.error("-" + other, "kind")

    def test_operators(self):
        for expression, value in (
            ("7 + 2", 9), ("7 - 9", -2), ("7 * 2", 14), ("-7 / 2", -4), ("-7 mod 2", 1), ("7 / -2", -4), ("7 mod -2", -1),
            ("\"a\" & \"b\" & \"\"", "ab"), ("1 < 2", True), ("2 < 2", False), ("2 <= 2", True), ("3 <= 2", False),
            ("3 > 2", True), ("2 > 2", False), ("2 >= 2", True), ("1 >= 2", False), ("1 == 1", True), ("1 != 1", False),
            ("1 == true", False), ("1 != \"1\"", True), ("none == none", True), ("none == false", False),
            ("\"a\" == \"a\"", True), ("new pair() == new pair()", False), ("new pair() != none", True),
            ("2 + 3 * 4 - 1", 13), ("(2 + 3) * 4", 20), ("10 - 3 - 2", 5),
        ):
            self.value(expression, value)

    def test_errors_of_operators(self):
        for op in ("+", "-", "*", "/", "mod", "<", "<=", ">", ">="):
            self.error("1 " + op + " true", "kind")
            self.error("\"a\" " + op + " 1", "kind")
            self.error("none " + op + " new pair()", "kind")
        self.error("\"a\" & 1", "kind")
        self.error("1 & \"a\"", "kind")
        self.error("1 / 0", "division by zero")
        self.error("1 mod 0", "division by zero")
        self.error("true / 0", "kind")
        self.error("9" * 60 + " + 1", "overflow")
        self.error("-" + "9" * 60 + " - 1", "overflow")
        self.error("1" + "0" * 30 + " * 1" + "0" * 30, "overflow")
        self.check("var t = \"" + "a" * 100 + "\"; t = t & t; print size(t); t = t & \"b\"; print 1;", [200], "size")

    def test_objects_are_the_same_or_not(self):
        self.check("var a = new pair(); var b = a; var c = new pair(); print a == b; print a == c; print a != c;",
                   [True, False, True])
        self.check("var a = array(1); a[0] = a; print a[0] == a; print a[0][0] == a; print a == array(1);",
                   [True, True, False])

    def test_from_left_to_right(self):
        self.error("1 / 0 + -true", "division by zero")
        self.error("-true + 1 / 0", "kind")
        self.error("1 / 0 == (not 1)", "division by zero")
        self.error("(1 / 0).a", "division by zero")
        self.error("1[1 / 0]", "kind")
        self.error("array(1)[1 / 0]", "division by zero")
        self.error("array(1)[-true]", "kind")
        # Both operands are evaluated before their kinds are looked at.
        self.error("true + 1 / 0", "division by zero")
        self.error("true > 1 / 0", "division by zero")
        self.error("1 / 0 != 2", "division by zero")

    def test_fields(self):
        self.check("var p = new pair(); p.a = 1; p.b = 2; print p.a; print p.b; var q = new one(); q.b = 3; print q.b;",
                   [1, 2, 3])
        self.check("var p = new pair(); p.a = new one(); p.a.b = 4; print p.a.b; print p.b;", [4, None])
        for other in ("1", "none", "true", "\"a\""):
            self.error(other + ".a", "kind")
        self.error("new one().a", "field")
        self.error("array(2).a", "field")

    def test_items(self):
        self.check("var a = array(3); a[0] = 5; a[2] = 7; print a[0]; print a[1]; print a[2]; print a[1 + 1];", [5, None, 7, 7])
        for other in ("1", "none", "true", "\"abc\""):
            self.error(other + "[0]", "kind")
            self.error("array(2)[" + ("new pair()" if other == "1" else other) + "]", "kind")
        self.error("new pair()[0]", "kind")
        for at in ("-1", "2", "40"):
            self.error("array(2)[" + at + "]", "index")
        self.error("array(0)[0]", "index")

    def test_size(self):
        self.value("size(\"\")", 0)
        self.value("size(\"a\\n\")", 2)
        self.value("size(array(0))", 0)
        self.value("size(array(40))", 40)
        for other in ("1", "none", "true", "new pair()"):
            self.error("size(" + other + ")", "kind")

    def test_array(self):
        self.value("size(array(1 + 2))", 3)
        for count in ("-1", "41"):
            self.error("array(" + count + ")", "size")
        for other in ("none", "true", "\"a\"", "new pair()"):
            self.error("array(" + other + ")", "kind")


class TestAssignments(MeaningCase):
    def test_var_and_set(self):
        self.check("var x = 1; print x; x = x + 1; print x; var x = x * 5; print x;", [1, 2, 10])
        self.check("var x = 1; x = 1 / 0; print x;", [], "division by zero")
        self.check("var x = 1; try { x = 1 / 0; } catch (e) { print x; print e; }", [1, "division by zero"])

    def test_read(self):
        self.check("var x = read(); print x; x = read(); print x;", [1, "a"], inputs=[1, "a", True], left=[True])
        self.check("var x = 1; x = read(); print x; x = read(); print x;", [None, None], inputs=[None])
        self.check("var x = 1; x = read(); print x;", [None])
        self.check("print 1;", [1], inputs=[4, 5], left=[4, 5])
        self.check("var x = read(); throw x;", [], 4, inputs=[4, 5], left=[5])
        self.check("var x = read();", [], inputs=[1] * 20, left=[1] * 19)

    def test_set_field(self):
        self.check("var p = new pair(); p.a = p; p.a.a.b = 3; print p.b;", [3])
        for value in ("1", "none", "\"a\""):
            self.check("var p = " + value + "; p.a = 1 / 0;", [], "kind")
        self.check("var p = new one(); p.a = 1 / 0;", [], "division by zero")
        self.check("var p = new one(); try { p.a = 1; } catch (e) { print e; } print p.b;", ["field", None])
        self.check("var p = array(2); p.a = 1;", [], "field")
        self.check("var p = new pair(); try { p.a = 1 / 0; } catch (e) {} print p.a;", [None])

    def test_set_item(self):
        self.check("var a = array(2); a[1] = array(1); a[1][0] = 6; print a[1][0]; print a[0];", [6, None])
        for value in ("1", "none", "\"abc\""):
            self.check("var a = " + value + "; a[1 / 0] = 1 / 0;", [], "kind")
        self.check("var a = array(2); a[1 / 0] = -true;", [], "division by zero")
        self.check("var a = array(2); a[9] = -true;", [], "kind")
        self.check("var a = array(2); a[2] = 1;", [], "index")
        self.check("var a = array(2); a[-1] = 1;", [], "index")
        self.check("var a = array(2); a[true] = 1 / 0;", [], "division by zero")
        self.check("var a = array(2); a[true] = 1;", [], "kind")
        self.check("var a = new pair(); a[0] = 1;", [], "kind")
        self.check("var a = array(1); try { a[1] = 5; } catch (e) { print e; } print a[0];", ["index", None])


class TestCalls(MeaningCase):
    def test_values(self):
        self.check("proc p() { return 3; } proc q() { } proc r() { return; } var x = p(); print x; x = q(); print x;"
                   " var y = 1; y = r(); print y;", [3, None, None])
        self.check("proc p(a, b) { return a - b; } var x = p(7, 2); print x; x = p(2, 7); print x;", [5, -5])
        self.check("proc p() { return new pair(); } var x = p(); x.a = 1; print x.a;", [1])
        self.check("proc p() { print 1; return 2; print 3; } p(); print 4;", [1, 4])

    def test_arguments_from_left_to_right(self):
        self.check("proc p(a, b) { print a; } p(1 / 0, -true);", [], "division by zero")
        self.check("proc p(a, b) { print a; } p(-true, 1 / 0);", [], "kind")
        self.check("proc p(a, b) { print 1; } print 2; p(3, none + 1);", [2], "kind")

    def test_parameters_are_new_variables(self):
        self.check("proc p(a) { a = a + 1; return a; } var x = 5; var y = p(x); print x; print y;", [5, 6])
        self.check("proc p(a) { a.a = 9; } var x = new pair(); p(x); print x.a;", [9])

    def test_return_leaves_the_call(self):
        self.check("proc p() { for (i = 1 to 3) { while (true) { if (i == 2) { return i; } break; } print i; } } var x = p();"
                   " print x;", [1, 2])
        self.check("proc p() { try { return 1; } catch (e) { print e; } print 2; } var x = p(); print x;", [1])
        self.check("proc p() { try { throw 1; } catch (e) { return e; } } var x = p(); print x;", [1])
        self.check("proc p() { try { return 1 / 0; } catch (e) { return e; } } var x = p(); print x;", ["division by zero"])

    def test_too_deep(self):
        deep = "proc p(n) { print n; if (n < %d) { p(n + 1); } } p(1); print 0;"
        self.check(deep.replace("%d", "12"), list(range(1, 13)) + [0])
        self.check(deep.replace("%d", "13"), list(range(1, 13)), "too deep")
        self.check("proc p() { p(); } try { p(); } catch (e) { print e; }", ["too deep"])
        # The arguments come first, and the guard may be in the innermost call.
        self.check("proc p(n) { if (n < 12) { p(n + 1); } else { p(1 / 0); } } p(1);", [], "division by zero")
        self.check("proc p(n) { try { var x = p(n + 1); return x; } catch (e) { print e; return n; } } var x = p(1); print x;",
                   ["too deep", 12])

    def test_calls_that_have_ended_do_not_count(self):
        self.check("proc p() { return 1; } proc q(n) { for (i = 1 to 20) { p(); } if (n < 11) { q(n + 1); } print n; } q(1);",
                   list(range(11, 0, -1)))
        self.check("proc p(n) { if (n < 12) { p(n + 1); } else { throw n; } }"
                   " for (i = 1 to 3) { try { p(1); } catch (e) { print e; } }", [12, 12, 12])


class TestControl(MeaningCase):
    def test_if(self):
        self.check("if (true) { print 1; } else { print 2; } if (false) { print 3; } else { print 4; }"
                   " if (false) { print 5; } if (1 < 2) { print 6; }", [1, 4, 6])
        self.check("var x = 2; if (x == 1) { print 1; } else if (x == 2) { print 2; } else { print 3; }", [2])
        for other in ("1", "none", "\"true\"", "new pair()"):
            self.check("if (" + other + ") { print 1; } else { print 2; }", [], "kind")
            self.check("while (" + other + ") { print 1; }", [], "kind")

    def test_while(self):
        self.check("var n = 0; while (n < 3) { print n; n = n + 1; } print n;", [0, 1, 2, 3])
        self.check("while (false) { print 1; } print 2;", [2])
        self.check("var t = true; while (t) { print 1; t = none; }", [1], "kind")

    def test_for(self):
        self.check("for (i = 2 to 4) { print i; }", [2, 3, 4])
        self.check("for (i = -1 to 1) { print i; }", [-1, 0, 1])
        self.check("for (i = 3 to 3) { print i; } for (i = 3 to 2) { print i; } print 0;", [3, 0])
        self.check("var n = 2; for (i = n - 1 to n) { n = 5; print i; } print n;", [1, 2, 5])
        big = "9" * 60
        self.check("for (i = " + big + " - 1 to " + big + ") { print i; }", [10 ** 60 - 2, 10 ** 60 - 1])
        self.check("for (i = 1 / 0 to -true) { }", [], "division by zero")
        self.check("for (i = true to 1 / 0) { }", [], "division by zero")
        for other in ("true", "none", "\"1\"", "new pair()"):
            self.check("for (i = " + other + " to 1) { print 1; }", [], "kind")
            self.check("for (i = 1 to " + other + ") { print 1; }", [], "kind")

    def test_break(self):
        self.check("for (i = 1 to 5) { if (i == 3) { break; } print i; } print 0;", [1, 2, 0])
        self.check("var n = 0; while (true) { n = n + 1; if (n == 3) { break; } } print n;", [3])
        self.check("for (i = 1 to 2) { while (true) { print i; break; } for (j = 1 to 2) { break; } print -i; }", [1, -1, 2, -2])
        self.check("for (i = 1 to 3) { try { if (i == 2) { break; } print i; } catch (e) { print e; } } print 0; throw 7;",
                   [1, 0], 7)
        self.check("for (i = 1 to 3) { try { throw i; } catch (e) { print e; break; } } print 0;", [1, 0])

    def test_print(self):
        for value in (None, True, 5, "a"):
            self.value({None: "none", True: "true", 5: "5", "a": "\"a\""}[value], value)
        for other in ("new pair()", "array(0)"):
            self.error(other, "kind")


class TestExceptions(MeaningCase):
    def test_throw(self):
        for shown, value in (("none", None), ("true", True), ("5", 5), ("\"kind\"", "kind")):
            self.check("print 1; throw " + shown + "; print 2;", [1], value)
        self.check("throw new pair();", [], "kind")
        self.check("throw array(1);", [], "kind")
        self.check("throw 1 / 0;", [], "division by zero")

    def test_try(self):
        self.check("try { print 1; } catch (e) { print 2; } print e;", [1, None])
        self.check("try { print 1; throw 5; print 2; } catch (e) { print e; } print e;", [1, 5, 5])
        self.check("var e = 1; try { throw e + 1; } catch (e) { e = e * 10; } print e;", [20])
        self.check("try { } catch (e) { print 1; }", [])
        self.check("try { throw new pair(); } catch (e) { print e; }", ["kind"])

    def test_on_its_way_through_blocks_loops_and_calls(self):
        self.check("proc p() { for (i = 1 to 3) { while (true) { if (i == 2) { throw i; } break; } } }"
                   " try { p(); print 1; } catch (e) { print e; } print 0;", [2, 0])
        self.check("proc p(n) { if (n == 0) { throw \"deep\"; } p(n - 1); print n; } try { p(4); } catch (e) { print e; }",
                   ["deep"])
        self.check("for (i = 1 to 2) { try { for (j = 1 to 2) { throw i * 10 + j; } } catch (e) { print e; } print i; }",
                   [11, 1, 21, 2])
        self.check("proc p() { var x = 1; q(); x = 2; } proc q() { throw 3; } p(); print 1;", [], 3)

    def test_the_variables_of_the_call_of_the_handler(self):
        self.check("proc p() { var x = 5; throw 1; } proc q() { var x = 7; try { p(); } catch (e) { print x; print e; } } q();",
                   [7, 1])

    def test_the_innermost_handler(self):
        self.check("try { try { throw 1; } catch (e) { print e; } print 2; } catch (f) { print f; }", [1, 2])
        self.check("try { try { } catch (e) { print e; } throw 3; } catch (f) { print f; }", [3])
        self.check("proc p() { try { throw 1; } catch (e) { print e; } } try { p(); print 2; } catch (f) { print 3; }", [1, 2])

    def test_a_handler_that_throws(self):
        self.check("try { throw 1; } catch (e) { throw e + 1; } print 3;", [], 2)
        self.check("try { try { throw 1; } catch (e) { throw e + 1; } } catch (f) { print f; }", [2])
        self.check("try { try { throw 1; } catch (e) { print 1 / 0; } } catch (e) { print e; }", ["division by zero"])

    def test_counters_behind_a_handler(self):
        self.check("for (i = 1 to 3) { try { for (j = 5 to 6) { throw j; } } catch (e) { print i; print e; } }",
                   [1, 5, 2, 5, 3, 5])

    def test_inside_the_parts_of_statements(self):
        self.check("for (i = 1 to 2) { try { for (j = 1 to none) { } } catch (e) { print e; } print i; }", ["kind", 1, "kind", 2])
        self.check("try { while (none) { } } catch (e) { print e; }", ["kind"])
        self.check("try { if (none) { } } catch (e) { print e; }", ["kind"])
        self.check("var x = 4; try { x = p(); } catch (e) { print x; } proc p() { throw 1; }", [4])


class TestAhead(MeaningCase):
    """[m9], [q4]: ahead means nothing."""

    def test_calls(self):
        self.check("var x = 0; proc p(n) { x = x + n; return x; } ahead p(1); ahead p(2); print x; var y = ahead p(3);"
                   " print y; y = ahead p(4); print x + y;", [3, 6, 20])

    def test_for(self):
        self.check("var x = 0; ahead for (i = 1 to 4) { x = x * 10 + i; print i; } print x;", [1, 2, 3, 4, 1234])
        self.check("ahead for (i = 3 to 1) { print i; } print 0;", [0])
        self.check("ahead for (i = 1 to 2) { ahead for (j = 1 to 2) { print i * 10 + j; } }", [11, 12, 21, 22])

    def test_break_leaves_the_loop(self):
        self.check("ahead for (i = 1 to 5) { if (i == 3) { break; } print i; } print 0;", [1, 2, 0])
        self.check("ahead for (i = 1 to 3) { while (true) { break; } print i; }", [1, 2, 3])
        self.check("for (i = 1 to 3) { ahead for (j = 1 to 3) { if (j == 2) { break; } print i; } }", [1, 2, 3])

    def test_return_leaves_the_call(self):
        self.check("proc p() { ahead for (i = 1 to 5) { if (i == 3) { return i; } print i; } return 0; } var x = p(); print x;",
                   [1, 2, 3])
        self.check("proc p() { ahead q(1); return 5; } proc q(n) { print n; } var x = ahead p(); print x;", [1, 5])
        self.check("proc p(n) { ahead for (i = 1 to 2) { ahead for (j = 1 to 2) { if (i + j == n) { return n; } print i + j; } } }"
                   " var x = p(3); print x; x = p(9); print x;", [2, 3, 2, 3, 3, 4, None])

    def test_exceptions(self):
        self.check("proc p(n) { if (n == 2) { throw n; } print n; } try { ahead p(1); ahead p(2); print 9; } catch (e) { print -e; }"
                   " print 0;", [1, -2, 0])
        self.check("proc p() { throw 1; } ahead p(); print 2;", [], 1)
        self.check("proc p() { print 1; } ahead p(); throw 2;", [1], 2)
        self.check("try { ahead for (i = 1 to 3) { ahead p(i); } } catch (e) { print e; } proc p(n) { print 10 / (2 - n); }",
                   [10, "division by zero"])
        self.check("proc p(n) { try { ahead q(n); print n; } catch (e) { print e; } } proc q(n) { if (n == 1) { throw 7; } }"
                   " ahead p(1); ahead p(2); print 0;", [7, 2, 0])

    def test_reading(self):
        self.check("proc p() { var x = read(); print x; } ahead p(); ahead p(); p();", [1, 2, None], inputs=[1, 2])

    def test_too_deep(self):
        deep = "proc p(n) { print n; if (n < %d) { ahead p(n + 1); } } ahead p(1); print 0;"
        self.check(deep.replace("%d", "12"), list(range(1, 13)) + [0])
        self.check(deep.replace("%d", "13"), list(range(1, 13)), "too deep")


class TestUnits(Case):
    """[m7], [m8]: how many units a run needs."""

    def units(self, text, needed, inputs=()):
        with self.subTest(text=text):
            tree = parse(text)
            result = meaning(tree, inputs, ENOUGH)
            self.assertIsNotNone(result)
            for more in (0, 1, 2, 10, 1000):
                self.assertEqual(meaning(tree, inputs, needed + more), result)
            for fewer in range(1, needed + 1):
                self.assertIsNone(meaning(tree, inputs, needed - fewer))

    def test_statements(self):
        self.units("", 0)
        self.units("record r(a); proc p() { print 1; }", 0)
        self.units("print 1;", 1)
        self.units("var x = 1; x = 2; x = read(); print x;", 4)
        self.units("record r(a); var x = new r(); x.a = 1; x = array(1); x[0] = 2;", 4)
        self.units("throw 1; print 2;", 1)

    def test_blocks_that_are_not_counted(self):
        self.units("if (true) { } else { print 1; }", 1)
        self.units("if (true) { print 1; } else { print 1; print 2; }", 2)
        self.units("if (false) { print 1; } else if (true) { print 2; }", 3)
        self.units("try { } catch (e) { }", 1)
        self.units("try { print 1; throw 2; print 3; } catch (e) { print 4; }", 4)

    def test_loops(self):
        self.units("while (false) { print 1; }", 1)
        self.units("for (i = 1 to 0) { print 1; }", 1)
        self.units("for (i = 1 to 3) { }", 4)
        self.units("for (i = 1 to 3) { print i; }", 7)
        self.units("ahead for (i = 1 to 3) { print i; }", 7)
        self.units("for (i = 1 to 3) { break; }", 3)
        self.units("var n = 0; while (n < 2) { n = n + 1; }", 6)
        self.units("for (i = 1 to 2) { for (j = 1 to 2) { } }", 9)

    def test_calls(self):
        self.units("proc p() { } p();", 1)
        self.units("proc p() { return 1; } var x = p(); x = ahead p();", 4)
        self.units("proc p(n) { if (0 < n) { p(n - 1); } } p(3);", 8)
        self.units("proc p(n) { p(n); } p(1);", 13)

    def test_failed_runs(self):
        self.units("print 1; print 1 / 0; print 2;", 2)
        self.units("while (none) { }", 1)
        self.units("for (i = 1 to 3) { throw i; }", 3)
        self.units("throw 1 / 0;", 1)

    def test_a_statement_begins_before_anything_of_it_is_evaluated(self):
        # The second statement would fail, but has no unit left.
        tree = parse("print 1; throw 2;")
        self.assertIsNone(meaning(tree, (), 1))
        self.assertEqual(meaning(tree, (), 2), (("failed", integer(2)), (integer(1),), ()))
        tree = parse("try { throw 1; } catch (e) { }")
        self.assertIsNone(meaning(tree, (), 1))
        self.assertEqual(meaning(tree, (), 2), (DONE, (), ()))

    def test_running_out_is_no_exception_of_the_program(self):
        tree = parse("try { print 1; print 2; } catch (e) { }")
        self.assertIsNone(meaning(tree, (), 2))
        self.assertEqual(meaning(tree, (), 3)[0], DONE)

    def test_runs_without_end(self):
        for text in ("while (true) { }", "while (true) { try { throw 1; } catch (e) { } }",
                     "var x = 0; while (true) { x = x + 1; }", "for (i = 1 to 1" + "0" * 59 + ") { }"):
            for fuel in (0, 1, 500, 10000):
                self.assertIsNone(meaning(parse(text), (), fuel))

    def test_arguments_are_not_changed(self):
        tree = parse("var x = read(); x = read(); print x;")
        inputs = [integer(1), integer(2), integer(3)]
        for fuel in (1, 100):
            meaning(tree, inputs, fuel)
            self.assertEqual(inputs, [integer(1), integer(2), integer(3)])
        self.assertEqual(meaning(tree, inputs, 100), (DONE, (integer(2),), (integer(3),)))
        self.assertEqual(tree, parse("var x = read(); x = read(); print x;"))

    def test_the_deepest_program(self):
        # 12 calls, each with 10 blocks within one another, around an expression of 30 levels.
        body = "print " + "+".join(["n"] * 30) + "; if (n < 12) { p(n + 1); }"
        for depth in range(8):
            body = (
                "if (true) { BODY }", "for (cN = 1 to 1) { BODY }", "while (true) { BODY break; }",
                "try { BODY } catch (e) { throw e; }",
            )[depth % 4].replace("BODY", body).replace("cN", "c" + str(depth))
        tree = parse("proc p(n) { " + body + " } p(1);")
        result = meaning(tree, (), ENOUGH)
        self.assertEqual(result, (DONE, tuple(integer(30 * n) for n in range(1, 13)), ()))
        self.assertEqual(run_to_end(compile_tree(tree), ()), result)


if __name__ == "__main__":
    unittest.main()
