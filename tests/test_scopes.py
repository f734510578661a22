"""[d1], [d2], [d3]: variables, their numbers, and what names mean."""

import unittest

from foretask.parsing import parse
from foretask.program import compile_tree
from foretask.scopes import variables_of
from tests.support import Case


def variables(text, parameters=()):
    return variables_of(parse(text)[3], parameters)


class TestVariablesOf(Case):
    def check(self, text, names, parameters=()):
        with self.subTest(text=text, parameters=parameters):
            found = variables(text, parameters)
            self.assertEqual(found, tuple(names.split()))
            self.assertIsInstance(found, tuple)

    def test_none(self):
        self.check("", "")
        self.check("x = 1; x.f = 2; x[1] = 3; f(x); print x; return x; throw x; break;", "")
        self.check("for (i = 1 to 2) {}", "")
        self.check("x = read(); x = f(); ahead f();", "")

    def test_var_statements(self):
        self.check("var a = 1; var b = 2; var c = 3;", "a b c")
        self.check("var c = b; var a = c;", "c a")
        self.check("var a = read(); var b = f(); var c = ahead f();", "a b c")

    def test_each_name_once_at_its_first_place(self):
        self.check("var a = 1; var b = 2; var a = 3; var c = 4; var b = 5;", "a b c")
        self.check("try {} catch (a) {} var a = 1;", "a")
        self.check("var b = 1; try { var a = 1; } catch (b) { var a = 2; }", "b a")

    def test_inner_blocks(self):
        self.check("if (x) { var a = 1; var b = 2; } else { var c = 1; } var d = 1;", "a b c d")
        self.check("if (x) { var b = 1; } else if (y) { var a = 1; } else { var c = 2; }", "b a c")
        self.check("var z = 1; while (x) { var a = 1; } var b = 2;", "z a b")
        self.check("for (i = 1 to 2) { var a = 1; } ahead for (j = 1 to 2) { var b = 1; }", "a b")
        self.check("while (x) { for (i = 1 to 2) { if (y) {} else { try { var q = 1; } catch (p) {} } } }", "q p")

    def test_try(self):
        self.check("try {} catch (e) {}", "e")
        self.check("try { var a = 1; } catch (b) { var c = 2; }", "a b c")
        self.check("try { var c = 1; } catch (b) { var a = 2; } var d = 1;", "c b a d")
        self.check("try { try { var a = 1; } catch (b) { var c = 1; } } catch (d) { try {} catch (e) {} }", "a b c d e")
        self.check("try { var e = 1; } catch (e) { var e = 2; }", "e")
        self.check("try { var x = 1; } catch (e) { var y = 2; var x = 3; }", "x e y")

    def test_parameters(self):
        self.check("", "p q", ("p", "q"))
        self.check("var a = 1;", "p q a", ("p", "q"))
        self.check("var q = 1; var a = 1; var p = 1;", "p q a", ("p", "q"))
        self.check("try { var b = 1; } catch (p) { var a = 1; }", "q p b a", ("q", "p"))
        self.check("while (a) { try {} catch (q) {} } var r = 1;", "p q r", ("p", "q"))

    def test_counters_are_no_variables(self):
        self.check("for (i = 1 to 2) { var a = i; }", "a")
        self.check("for (a = 1 to 2) {} var a = 1;", "a")


class TestNumbers(Case):
    def test_of_the_program(self):
        program = compile_tree(parse("var b = 1; if (true) { var a = 2; } try {} catch (e) {} a = b; b = e;"))
        self.assertEqual(program.variables, ("b", "a", "e"))
        stores = [step[1] for step in program.code if step[0] == "store"]
        self.assertEqual(stores, [("top", 0), ("top", 1), ("top", 2), ("top", 1), ("top", 0)])
        loads = [step[1] for step in program.code if step[0] == "load"]
        self.assertEqual(loads, [("top", 0), ("top", 2)])

    def test_of_procedures(self):
        text = "var x = 1; proc f(p, q) { var y = x; p = q; y = p; x = y; } proc g() { var z = x; z = z; }"
        program = compile_tree(parse(text))
        self.assertEqual(program.variables, ("x",))
        self.assertEqual([row[:2] for row in program.procedures], [("f", ("p", "q", "y")), ("g", ("z",))])
        stores = [step[1] for step in program.code if step[0] == "store"]
        self.assertEqual(
            stores, [("top", 0), ("own", 1), ("own", 0), ("own", 2), ("own", 0), ("own", 2), ("top", 0), ("own", 0),
                     ("own", 0)]
        )
        loads = [step[1] for step in program.code if step[0] == "load"]
        self.assertEqual(loads, [("top", 0), ("own", 1), ("own", 0), ("own", 2), ("top", 0), ("own", 0)])


class TestMeanings(Case):
    def names(self, text):
        """Returns what the names in the print statements of a program mean, in the order of the code."""
        code = compile_tree(parse(text)).code
        return [code[at - 1][1] for at, step in enumerate(code) if step[0] == "print"]

    def check(self, text, *meanings):
        with self.subTest(text=text):
            self.assertEqual(self.names(text), list(meanings))

    def test_a_variable_of_the_program(self):
        self.check("var x = 1; print x;", ("top", 0))
        self.check("proc f() { print x; } var x = 1;", ("top", 0))
        self.check("print x; var x = 1;", ("top", 0))
        self.check("if (false) { var x = 1; } print x;", ("top", 0))
        self.check("proc f() { print e; } try {} catch (e) {}", ("top", 0))

    def test_a_variable_of_a_procedure_hides_one_of_the_program(self):
        self.check("var a = 1; var x = 1; print x; proc f() { print x; var x = 2; }", ("top", 1), ("own", 0))
        self.check("var x = 1; proc f(x) { print x; } print x;", ("top", 0), ("own", 0))
        self.check("var x = 1; proc f(a) { if (true) { var x = 2; } print x; } proc g() { print x; }",
                   ("own", 1), ("top", 0))
        self.check("var x = 1; proc f() { try {} catch (x) { print x; } }", ("own", 0))

    def test_a_counter_hides_variables(self):
        self.check("var i = 1; for (i = 1 to 2) { print i; } print i;", 0, ("top", 0))
        self.check("var i = 1; proc f(i) { print i; for (i = 1 to 2) { print i; } print i; }",
                   ("own", 0), 0, ("own", 0))
        self.check("for (i = 1 to 2) { print i; } try {} catch (i) { print i; }", 0, ("top", 0))
        self.check("var i = 1; ahead for (i = 1 to 2) { print i; }", 0)

    def test_numbers_of_counters(self):
        self.check("for (i = 1 to 2) { print i; for (j = 1 to 2) { print i; print j; for (k = 1 to 2) { print i; print j;"
                   "print k; } print j; } print i; }", 0, 1, 0, 2, 1, 0, 0, 0)
        self.check("for (i = 1 to 2) { while (true) { ahead for (j = 1 to 2) { if (true) { print i; print j; } } } }", 1, 0)
        self.check("for (i = 1 to 2) { try { while (true) { print i; } } catch (e) { print i; } }", 0, 0)

    def test_counters_one_behind_the_other(self):
        self.check("for (i = 1 to 2) { for (j = 1 to 2) { print j; } for (j = 1 to 2) { print i; } } for (j = 1 to 2) {"
                   "print j; }", 0, 1, 0)
        self.check("for (i = 1 to 2) {} for (i = 1 to 2) { print i; }", 0)

    def test_bounds_are_outside(self):
        code = compile_tree(parse("var i = 5; for (i = i to i + 1) { print i; }")).code
        self.assertEqual([step for step in code if step[0] in ("load", "counter")],
                         [("load", ("top", 0)), ("load", ("top", 0)), ("counter", 0)])
        code = compile_tree(parse("for (i = 1 to 2) { for (j = i to i) { print i; } }")).code
        self.assertEqual([step for step in code if step[0] in ("load", "counter")],
                         [("counter", 0), ("counter", 0), ("counter", 1)])

    def test_procedures_are_not_inside_for_statements(self):
        self.check("var i = 1; for (i = 1 to 2) { f(); } proc f() { print i; }", ("top", 0))
        self.check("var x = 1; for (i = 1 to 2) { f(); } proc f() { for (j = 1 to 2) { print j; } }", 0)

    def test_the_same_name_for_everything(self):
        self.check("record x(x); proc x(a) { print a; } var x = 1; print x; for (x = 1 to 2) { x(x); print x; }",
                   ("top", 0), 0, ("own", 0))

    def test_a_second_var_assigns_the_same_variable(self):
        program = compile_tree(parse("var a = 1; var b = 2; var a = 3;"))
        self.assertEqual(program.variables, ("a", "b"))
        self.assertEqual([step[1][1] for step in program.code if step[0] == "store"], [0, 1, 0])

    def test_assigned_names(self):
        text = "var x = 1; var y = 1; proc f(y) { x = 1; y = 2; try {} catch (x2) {} var z = 3; } x = 4; y = 5;"
        stores = [step[1] for step in compile_tree(parse(text)).code if step[0] == "store"]
        self.assertEqual(
            stores, [("top", 0), ("top", 1), ("top", 0), ("top", 1), ("own", 0), ("top", 0), ("own", 0), ("own", 1),
                     ("own", 2)]
        )


if __name__ == "__main__":
    unittest.main()
