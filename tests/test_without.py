"""without_ahead: every place where ahead may stand, and that nothing else changes."""

import unittest

from foretask.parsing import parse
from foretask.program import compile_tree
from foretask.without import without_ahead
from tests.programs import WRITTEN, made
from tests.support import Case

HEAD = "record r(a, b); proc p() { } proc q(x, y) { return x; } var v = 0; "
# Statements in which AHEAD stands where ahead may stand.
STATEMENTS = (
    "AHEAD p();", "AHEAD q(1, v + 2);", "var w = AHEAD p();", "v = AHEAD q(v, true);",
    "AHEAD for (i = 1 to 2) { }", "AHEAD for (i = v to v + 1) { print i; }",
    "AHEAD for (i = 1 to 2) { AHEAD p(); }", "for (i = 1 to 2) { AHEAD p(); v = AHEAD p(); }",
    "if (true) { AHEAD p(); } else { AHEAD p(); }", "if (true) { } else if (false) { AHEAD p(); } else { var w = AHEAD p(); }",
    "while (true) { AHEAD p(); break; }", "try { AHEAD p(); } catch (e) { v = AHEAD p(); }",
    "try { try { } catch (e) { AHEAD for (i = 1 to 2) { AHEAD for (j = 1 to 2) { AHEAD p(); } } } } catch (f) { }",
)


class TestWithout(Case):
    def test_every_place(self):
        for statement in STATEMENTS:
            for text in (HEAD + statement, HEAD + "proc s(v) { " + statement + " return v; } AHEAD p();"):
                with self.subTest(text=text):
                    ahead = parse(text.replace("AHEAD", "ahead"))
                    bare = parse(text.replace("AHEAD ", ""))
                    self.assertNotEqual(ahead, bare)
                    self.assertEqual(without_ahead(ahead), bare)
                    self.assertEqual(without_ahead(bare), bare)

    def test_one_of_several(self):
        # Each ahead alone is taken away.
        text = HEAD + " ".join(STATEMENTS)
        bare = parse(text.replace("AHEAD ", ""))
        parts = text.split("AHEAD ")
        for at in range(1, len(parts)):
            one = "".join(parts[:at]) + "ahead " + "".join(parts[at:])
            self.assertNotEqual(parse(one), bare)
            self.assertEqual(without_ahead(parse(one)), bare)

    def test_nothing_else_changes(self):
        text = (HEAD + "var a = array(3); a[0] = 1; a[1] = new r(); a[1].a = not true or 1 < -2; v = read(); var w = read();"
                " p(); v = q(1, 2); print size(a);\n if (v == 1) { print \"ahead\"; } else { throw none; }\n while (false) { }"
                " for (i = 1 to 2) { break; }\n try { throw 1; } catch (e) { print e; }\n proc s() { return; }")
        tree = parse(text)
        self.assertEqual(without_ahead(tree), tree)
        self.assertEqual(without_ahead(parse("")), parse(""))

    def test_lines_stay(self):
        tree = parse("var x = 1;\n\nahead\nfor (i = 1\n to 2) {\n ahead p();\n}\nproc p() {\n x = ahead\n p(); }")
        bare = without_ahead(tree)
        self.assertEqual([statement[1] for statement in bare[3]], [1, 3])
        self.assertEqual((bare[2][0][0], bare[2][0][3][0][1], bare[3][1][5][0][1]), (8, 9, 6))

    def test_the_tree_is_not_changed(self):
        tree = parse(HEAD + "ahead p();")
        without_ahead(tree)
        self.assertEqual(tree, parse(HEAD + "ahead p();"))

    def test_many_programs(self):
        for text, _ in WRITTEN + made(40):
            bare = without_ahead(parse(text))
            self.assertEqual(bare, parse(text.replace("ahead ", "")))
            kinds = [step[0] for step in compile_tree(bare).code]
            self.assertNotIn("spawn", kinds)
            self.assertNotIn("finish", kinds)


if __name__ == "__main__":
    unittest.main()
