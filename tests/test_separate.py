"""[l1] to [l8] and [l10]: loops whose turns can't disturb what other turns read."""

import random
import unittest

from foretask.program import Program
from foretask.separate import separate_loops
from foretask.serial import Serial, next_action, serial_step
from tests.programs import WRITTEN, made, races
from tests.support import Case, integer, program_of

HEAD = "var a = array(9); var b = array(9); var x = 0; var y = 0; var on = true; record r(f); "


class SeparateCase(Case):
    def told(self, text, wanted):
        with self.subTest(text=text):
            self.assertEqual(separate_loops(program_of(text)), wanted)

    def body(self, body, *why):
        """The body of a loop that begins in line 1; at and why if it is not separate."""
        self.told(HEAD + "ahead for (i = 1 to 5) {\n" + body + "\n} proc p(n) { return n; }", ((1, not why) + why,))


class TestFindingLoops(SeparateCase):
    def test_no_loop(self):
        self.told("", ())
        self.told("for (i = 1 to 2) { print i; }", ())
        self.told("ahead p(); for (i = 1 to 2) { ahead p(); print i; } while (false) { ahead p(); } proc p() { }", ())

    def test_empty_bodies(self):
        self.told("ahead for (i = 1 to 2) { }", ((1, True),))
        self.told("\n\nahead for (i = 1\nto\n2) { }", ((3, True),))

    def test_the_order_of_the_code(self):
        # The code of procedures stands behind that of the program.
        text = "proc p() {\nahead for (i = 1 to 2) { print 1; }\n}\nahead for (j = 1 to 2) { q(); }\nproc q() { ahead for (k = 1 to 2) {\n} }"
        self.told(text, ((4, False, 4, "call"), (2, True), (5, True)))

    def test_loops_within_loops(self):
        text = "ahead for (i = 1 to 2) {\nahead for (j = 1 to 2) {\nprint j; } }"
        self.told(text, ((1, False, 2, "loop"), (2, True)))
        # The bounds of the inner loop come before its each, which is told.
        self.told(text.replace("j = 1", "j = i"), ((1, False, 2, "loop"), (2, True)))
        self.told("for (i = 1 to 2) {\nahead for (j = 1 to 2) {\nprint j; } }", ((2, True),))
        self.told("while (true) {\nahead for (j = 1 to 2) {\nprint j; } }", ((2, True),))

    def test_a_loop_whose_block_is_one_statement_with_ahead(self):
        self.told("for (i = 1 to 2) {\nahead p(i); } proc p(n) { }", ((1, False, 2, "call"),))
        self.told("var x = 0; for (i = 1 to 2) {\nx = ahead p(); } proc p() { }", ((1, False, 2, "call"),))
        self.told("for (i = 1 to 2) { ahead p(i); print i; } proc p(n) { }", ())
        self.told("for (i = 1 to 2) { print i; ahead p(i); } proc p(n) { }", ())
        self.told("ahead for (i = 1 to 2) {\nahead p(i); } proc p(n) { }", ((1, False, 2, "flow"),))

    def test_loops_in_every_place(self):
        loop = "\nahead for (i = 0 to 3) { print i; }"
        for text in ("if (true) {X}", "if (true) {} else {X}", "try {X} catch (e) {}", "try {} catch (e) {X}", "proc p() {X}"):
            self.told(text.replace("X", loop), ((2, True),))


class TestInstructions(SeparateCase):
    """[l4] and the reasons of [l7]."""

    def test_variables_that_are_read_alone(self):
        self.body("print x; print x + y;")
        self.body("a[i] = x * y;")

    def test_variables_that_the_turn_has_stored(self):
        self.body("x = i; print x;")
        self.body("var z = x; a[i] = z;")
        self.body("x = i;\ny = x;\nx = y + x;")
        self.body("x = x + i;", 2, "variable")
        self.body("print x;\nx = 1;", 2, "variable")
        self.body("x = y;\ny = 1;", 2, "variable")
        self.body("y = 1;\nprint y;\nprint x;\nx = 2;", 4, "variable")

    def test_variables_that_are_stored_on_every_way(self):
        self.body("if (on) { x = 1; } else { x = 2; } print x;")
        self.body("if (on) { x = 1; }\nprint x;", 3, "variable")
        self.body("if (on) { x = 1; } else { y = 2; }\nprint 1;\nprint x;", 4, "variable")
        self.body("if (on) { x = 1; if (on) { y = x; } else { y = 1; } } else { x = 2; y = 3; } print x + y;")
        self.body("if (on) { x = 1; print x; }")
        # The variable is stored behind the and alone; the expression itself is read either way.
        self.body("var z = on and true; if (z) { x = 1; } else { print 2; }\nx = 3; print x;")

    def test_own_and_top_variables_of_the_same_number(self):
        head = "var g = 0; var h = 0; p(1); proc p(n) {\nahead for (i = 1 to 2) {\nX\n} }"
        # g and n have the number 0.
        self.told(head.replace("X", "print n; print g;"), ((2, True),))
        self.told(head.replace("X", "g = 1; print n;"), ((2, False, 3, "variable"),))
        self.told(head.replace("X", "n = 1; print g;"), ((2, False, 3, "variable"),))
        self.told(head.replace("X", "n = 1; g = 2; print n + g;"), ((2, True),))
        self.told(head.replace("X", "h = 1; print n; print g;"), ((2, True),))

    def test_counters(self):
        self.body("print i; a[i] = i;")
        # A counter of a loop further out is not that of the turn.
        text = HEAD + "for (j = 1 to 2) {\nahead for (i = 1 to 2) {\nX } }"
        self.told(text.replace("X", "a[i] = j;"), ((2, True),))
        self.told(text.replace("X", "a[j] = i;"), ((2, False, 3, "index"),))
        self.told(text.replace("X", "print j + i;"), ((2, True),))

    def test_the_shift_0(self):
        self.body("a[i] = 1; b[i] = a[i]; print b[i];")
        self.body("a[i + 0] = 1; a[0 + i] = a[i - 0];")
        self.body("a[1] = i;", 2, "index")
        self.body("a[x] = i;", 2, "index")
        self.body("print a[i];\nprint a[i * 1];", 3, "index")
        self.body("print a[-i];", 2, "index")
        self.body("print a[0 - i];", 2, "index")
        self.body("print a[i + x];", 2, "index")
        self.body("print a[i + i];", 2, "index")
        self.body("print a[\"a\"];", 2, "index")
        self.body("print a[b[i]];", 2, "index")

    def test_shifts(self):
        self.body("a[i + 1] = 1;")
        self.body("a[1 + i] = a[i + 1];")
        self.body("a[i - 1] = 7; print a[i + -1];")
        self.body("a[i - 3] = 1; print a[-3 + i];")
        self.body("print a[i + 3 - 2 - 1]; print a[i];")
        # The sum of 3 and -2 is a shift, if a push of the body has this number, or the one below zero.
        self.body("print a[i + 3 - 2]; print 1;")
        self.body("print a[i + 3 - 2]; print -1;")
        self.body("print a[i - 3 + 2]; print 1;")
        self.body("print a[i + 3 - 2];", 2, "index")
        # The number of another loop, or of a bound, is no push of the body.
        self.told(HEAD + "print 1; ahead for (i = 1 to 1) { print a[i + 3 - 2]; } print 1;", ((1, False, 1, "index"),))
        # Two different shifts.
        self.body("a[i] = 1;\na[i + 1] = 2;", 3, "index")
        self.body("a[i + 1] = 1;\na[i] = 2;", 2, "index")
        self.body("a[i + 1] = a[i + 2];", 2, "index")

    def test_large_numbers(self):
        large = "9" * 60
        self.body(f"a[i + {large}] = 1; print a[{large} + i];")
        self.body(f"a[i + {large} + {large}] = 1;", 2, "index")
        self.body(f"a[i + {large} + {large} - {large}] = 1;")

    def test_what_is_known_of_operands(self):
        self.body("print a[i + (1 + 1)];", 2, "index")
        self.body("print a[i + --1];")
        self.body("print a[i - -1]; print a[i + 1];")
        self.body("print a[(i + 1) - 1];")
        self.body("print a[1 - (1 - i)];", 2, "index")
        self.body("x = i; print a[x];", 2, "index")
        self.body("print a[i + size(a)];", 2, "index")
        self.body("print a[not on];", 2, "index")
        self.body("print a[i + \"1\"];", 2, "index")
        self.body("print a[i & i];", 2, "index")
        self.body("print a[i / 1];", 2, "index")
        self.body("print a[i mod 9];", 2, "index")
        self.body("print a[i < 1];", 2, "index")
        self.body("print a[i == 1];", 2, "index")
        # The operand behind and is known, but at the end it comes together with the other.
        self.body("print a[on and i];", 2, "index")
        self.body("print a[on or i];", 2, "index")

    def test_set_item(self):
        # The index is the last operand but one; the value may be anything.
        self.body("a[i] = a[i] + b[i]; a[i] = none; a[i] = \"a\"; a[i] = a;")
        self.body("a[i] = 0; a[0] = i;", 2, "index")
        self.body("a[i][i] = 1;")
        self.body("a[i][0] = 1;", 2, "index")
        self.body("a[0][i] = 1;", 2, "index")

    def test_allowed_expressions(self):
        self.body("print not on; print -i; print size(a); print i * 2 - x / 3 mod 4; print \"a\" & \"b\";")
        self.body("print i <= 1; print i > 1; print i != x; print true; print none;")
        self.body("print on and i < 2 or not on;")

    def test_allowed_statements(self):
        self.body("if (on) { print 1; } else { if (x == 1) { print 2; } }")
        self.body("if (on) { if (on) { } } else { }")

    def test_calls(self):
        self.body("print 1;\np(i);", 3, "call")
        self.body("print 1;\nx = p(i);", 3, "call")
        self.body("x = ahead p(i);", 2, "flow")
        self.body("print 1; ahead p(i);", 2, "flow")

    def test_loops(self):
        self.body("while (on) { print 1; }", 2, "loop")
        self.body("for (j = 1\nto\n2) { print 1; }", 2, "loop")
        self.told(HEAD + "ahead for (i = 1 to 2) {\nprint 2;\nahead for (j = 1 to 2) { print j; } }",
                  ((1, False, 3, "loop"), (3, True)))

    def test_other_reasons(self):
        self.body("try { print 1; } catch (e) { }", 2, "try")
        self.body("print x.f;", 2, "field")
        self.body("print 1;\nx.f = 2;", 3, "field")
        self.body("x = new r();", 2, "new")
        self.body("print 1;\nx = array(2);", 3, "new")
        self.body("x = read();", 2, "read")
        self.body("throw i;", 2, "throw")
        self.body("print 1;\nif (on) {\nbreak; }", 4, "break")
        self.told("proc p() {\nahead for (i = 1 to 2) {\nreturn i;\n} }", ((2, False, 3, "return"),))

    def test_the_line_is_that_of_the_innermost_statement(self):
        self.body("if (on) {\nprint 1;\n} else {\nif (x\n== 1) {\nthrow 3; } }", 7, "throw")
        self.body("if (a\n[1] == 1) { }", 2, "index")

    def test_the_first_fault_counts(self):
        self.body("print a[i];\nthrow 1;\na[0] = 1;", 3, "throw")
        self.body("print a[0];\nthrow 1;", 2, "index")
        self.body("a[i + 1] = 1;\nthrow 2;", 2, "index")
        self.body("if (on) { throw 1; }\nx = read();", 2, "throw")

    def test_nothing_is_told_behind_an_instruction_that_does_not_go_on(self):
        # The break is not allowed, so the fault is there, whatever stands behind.
        self.body("break;\nthrow 1;", 2, "break")


# The code of a loop around a body: its addresses begin with 6, the finish stands behind it.
def made_program(body, before=None, behind=(), lines=None):
    """Returns a Program with a loop that has this body: enter, two bounds, each, test, spawn, body, finish, next, end_loop."""
    finish = 6 + len(body)
    code = [("enter",), before or ("push", integer(1)), ("push", integer(3)), ("each", finish + 3), ("test", finish + 2),
            ("spawn", finish + 1), *body, ("finish",), ("next", 4), ("end_loop",), *behind, ("halt",)]
    return Program(tuple(code), tuple(lines or range(100, 100 + len(code))), (), ("v", "w"), ())


class TestMadeCode(SeparateCase):
    """[l5] and [l6] in code that no program text has: the line of an address is the address and 100."""

    def check(self, body, wanted, **more):
        with self.subTest(body=body, **more):
            self.assertEqual(separate_loops(made_program(body, **more)), ((103,) + wanted,))

    def test_ways_that_come_together(self):
        push, drop = ("push", integer(2)), ("drop",)
        self.check((push, drop), (True,))
        # Both ways have one operand, at 10.
        self.check((("push", integer(1)), ("jump_not", 10), push, ("jump", 11), push, drop), (True,))
        # One operand and none: the second one does not fit, and comes from the instruction before.
        self.check((("push", integer(1)), ("jump_not", 9), push, drop), (False, 108, "flow"))
        self.check((("push", integer(1)), ("jump_not", 9), push, ("print",)), (False, 108, "flow"))
        # The fault is told by the kind of the instruction that makes the sight.
        self.check((("push", integer(1)), ("jump_not", 9), ("load", ("top", 0)), drop), (False, 108, "variable"))
        self.check((push, push, ("push", integer(1)), ("jump_not", 12), ("counter", 0), ("item",), drop), (False, 111, "index"))
        self.check((push, push, ("push", integer(1)), ("jump_not", 13), push, ("counter", 0), ("item",), drop), (True,))

    def test_how_many_operands_are_taken_and_put(self):
        push = ("push", integer(1))
        for instruction, change in (
            (push, 1), (("push", ("none",)), 1), (("load", ("top", 1)), 1), (("counter", 0), 1), (("counter", 3), 1), (("not",), 0),
            (("minus",), 0), (("size",), 0), (("sized",), 0), (("both", "+"), -1), (("both", "=="), -1), (("kind",), 1),
            (("store", ("own", 0)), -1), (("print",), -1), (("drop",), -1), (("jump", 14), 0), (("jump_not", 14), -1),
        ):
            # One way goes through the instruction, the other one passes it; more pushes or drops make up for it.
            rest = (push,) * -change + (("drop",),) * change
            body = (push,) * 6 + (("jump_not", 14 + len(rest)), instruction) + rest + (("drop",),)
            self.check(body, (True,))
            for more in (("drop",), push):
                wrong = (push,) * 6 + (("jump_not", 15 + len(rest)), instruction, *rest, more, ("drop",))
                with self.subTest(instruction=instruction, more=more):
                    self.assertIs(separate_loops(made_program(wrong))[0][1], False)
        for items, change in ((("item",), -2), (("set_item",), -4)):
            operands = [("counter", 0)] if items == ("item",) else [("counter", 0), push]
            rest = (push,) * (-change - len(operands))
            target = 6 + 7 + len(operands) + 1 + len(rest)
            body = (push,) * 6 + (("jump_not", target), *operands, items, *rest, ("drop",))
            self.check(body, (True,))
            self.assertIs(separate_loops(made_program((push,) * 6 + (("jump_not", target + 1), *operands, items, *rest, push,
                                                                     ("drop",))))[0][1], False)

    def test_ways_to_the_finish(self):
        self.check((("push", integer(1)), ("jump_not", 9), ("push", integer(2))), (False, 108, "flow"))
        self.check((("push", integer(1)), ("jump_not", 8)), (True,))
        self.check((("jump", 7),), (True,))
        # Beyond the finish: next, and other addresses.
        self.check((("jump", 8),), (False, 106, "flow"))
        self.check((("jump", 9),), (False, 106, "flow"))
        self.check((("push", integer(1)), ("jump_not", 9)), (False, 107, "flow"))

    def test_ways_back(self):
        self.check((("push", integer(1)), ("drop",), ("jump", 6)), (False, 108, "flow"))
        self.check((("jump", 6),), (False, 106, "flow"))
        self.check((("push", integer(1)), ("jump_not", 7)), (False, 107, "flow"))
        self.check((("push", integer(1)), ("or_jump", 6), ("drop",)), (False, 107, "flow"))

    def test_an_instruction_with_both_ways_to_the_next_address(self):
        self.check((("push", integer(1)), ("jump_not", 8)), (True,))
        # An and_jump leaves different numbers of operands there.
        self.check((("push", integer(1)), ("and_jump", 8)), (False, 107, "flow"))

    def test_addresses_without_a_sight(self):
        # They are passed over, whatever stands there.
        self.check((("jump", 9), ("throw",), ("call", 0, 0)), (True,))
        self.check((("jump", 8), ("load", ("top", 0)), ("push", integer(1)), ("drop",)), (True,))
        # But what they store counts for the variables, and what they push for the shifts.
        self.check((("jump", 8), ("store", ("top", 0)), ("load", ("own", 0)), ("drop",)), (False, 108, "variable"))
        index = (("counter", 0), ("push", integer(2)), ("both", "+"), ("push", integer(5)), ("both", "-"))
        item = (("push", integer(0)), ("kind",)) + index + (("item",), ("drop",))
        self.check((("jump", 7),) + item, (False, 114, "index"))
        self.check((("jump", 8), ("push", integer(3))) + item, (True,))

    def test_operands_that_are_not_known(self):
        # The turn takes more operands than it has made.
        self.check((("drop",), ("print",), ("both", "+"), ("drop",)), (True,))
        self.check((("counter", 0), ("item",)), (True,))
        self.check((("item",),), (False, 106, "index"))
        self.check((("push", integer(1)), ("set_item",)), (False, 107, "index"))
        self.check((("counter", 0), ("push", integer(1)), ("set_item",)), (True,))

    def test_merged_operands(self):
        ways = (("push", integer(1)), ("jump_not", 10), ("counter", 0), ("jump", 11))
        self.check(ways + (("counter", 0), ("item",), ("drop",)), (True,))
        self.check(ways + (("push", integer(0)), ("item",), ("drop",)), (False, 111, "index"))

    def test_counters_of_other_loops(self):
        self.check((("counter", 0), ("item",)), (True,))
        self.check((("counter", 1), ("item",)), (False, 107, "index"))

    def test_numbers_and_turns(self):
        def index(*code):
            return (("push", integer(0)), ("kind",)) + code + (("item",), ("drop",))

        number, turn, minus = ("push", integer(4)), ("counter", 0), ("minus",)
        self.check(index(turn, number, ("both", "+")), (True,))
        self.check(index(number, turn, ("both", "+")), (True,))
        self.check(index(turn, number, ("both", "-")), (True,))
        self.check(index(turn, number, minus, ("both", "+")), (True,))
        self.check(index(turn, number, minus, ("both", "-")), (True,))
        self.check(index(number, turn, ("both", "-")), (False, 111, "index"))
        self.check(index(turn, minus), (False, 110, "index"))
        self.check(index(turn, turn, ("both", "+")), (False, 111, "index"))
        self.check(index(turn, ("push", ("bool", True)), ("both", "+")), (False, 111, "index"))
        self.check(index(turn, ("push", ("text", "4")), ("both", "+")), (False, 111, "index"))
        for op in ("*", "/", "mod", "&", "<", "<=", "=="):
            self.check(index(turn, number, ("both", op)), (False, 111, "index"))

    def test_every_other_instruction_is_flow(self):
        for instruction in (("tag", "r"), ("tag_size",), ("unguard",), ("end_loop",), ("test", 9), ("next", 9), ("spawn", 7),
                            ("finish",), ("halt",), ("enter",)):
            self.check((instruction,), (False, 106, "flow"))
        for instruction, why in (
            (("call", 0, 0), "call"), (("loop", 9), "loop"), (("each", 9), "loop"), (("guard", 9), "try"), (("field", "f"), "field"),
            (("set_field", "f"), "field"), (("make",), "new"), (("check_size",), "new"), (("input",), "read"), (("throw",), "throw"),
            (("return",), "return"), (("break",), "break"),
        ):
            self.check((instruction,), (False, 106, why))

    def test_addresses_that_are_named_from_outside(self):
        body = (("push", integer(1)), ("print",), ("push", integer(2)), ("print",))
        # The spawn has the address 5, the finish 10.
        for word in ("jump", "jump_not", "and_jump", "or_jump", "guard", "loop", "each", "test", "next", "spawn"):
            for address in (0, 3, 4, 11, 12):
                self.check(body, (True,), behind=((word, address),))
                self.check(body, (True,), before=(word, address))
            for address in (5, 6, 8, 10):
                self.check(body, (False, 103, "loop"), behind=((word, address),))
                self.check(body, (False, 103, "loop"), before=(word, address))
        # Instructions with another number in that place name no address.
        for instruction in (("push", integer(7)), ("counter", 7), ("call", 7, 0), ("load", ("top", 7))):
            self.check(body, (True,), behind=(instruction,))

    def test_addresses_that_the_loop_itself_names(self):
        body = (("push", integer(1)), ("print",))
        program = made_program(body)
        # The test may name an address between the spawn and the finish, the finish and the each may not.
        for at, instruction, wanted in ((4, ("test", 6), (True,)), (4, ("test", 8), (True,)), (3, ("each", 6), (False, 103, "loop")),
                                        (8, ("jump", 6), (False, 103, "loop")), (8, ("jump", 4), (True,))):
            code = list(program.code)
            code[at] = instruction
            self.assertEqual(separate_loops(Program(tuple(code), program.lines, (), (), ())), ((103,) + wanted,))

    def test_a_fault_and_a_name_from_outside(self):
        self.check((("throw",),), (False, 106, "throw"), behind=(("jump", 6),))
        # With the shift 0 the item is the first fault, though another shift has none.
        body = (("counter", 0), ("push", integer(1)), ("both", "+"), ("item",))
        self.check(body, (True,))
        self.check(body, (False, 109, "index"), behind=(("jump", 6),))

    def test_code_of_another_form(self):
        body = (("print",),)
        program = made_program(body)
        self.assertEqual(len(separate_loops(program)), 1)
        for at, instruction in ((3, ("loop", 10)), (4, ("jump", 9)), (5, ("jump", 8)), (5, ("spawn", 7)), (5, ("spawn", 9)),
                                (5, ("spawn", 400)), (5, ("spawn", 11)), (8, ("next", 3)), (8, ("jump", 4))):
            code = list(program.code)
            code[at] = instruction
            with self.subTest(at=at, instruction=instruction):
                self.assertEqual(separate_loops(Program(tuple(code), program.lines, (), (), ())), ())

    def test_the_last_instruction_is_a_test(self):
        for code in ((("each", 2), ("test", 2)), (("each", 1),), (), (("test", 0), ("spawn", 0))):
            self.assertEqual(separate_loops(Program(code, (1,) * len(code), (), (), ())), ())

    def test_the_program_is_not_changed(self):
        program = made_program((("print",),))
        before = dict(vars(program))
        separate_loops(program)
        self.assertEqual(vars(program), before)


class LoopMaker:
    """Makes programs by chance with ahead for loops, many of which are separate."""

    def __init__(self, seed):
        self.chance = random.Random(seed)
        self.index = "i"

    def pick(self, *rows):
        return self.chance.choice(rows)

    def program(self):
        shift = self.pick(0, 0, 1, 2)
        self.index = self.pick("i") if shift == 0 else self.pick(f"i + {shift}", f"{shift} + i", f"i - {shift}")
        loop = f"ahead for (i = {self.pick('0', '1')} to {self.pick('3', '4')}) {{ {self.block(2)} }}"
        text = "var a = array(6); var b = array(6); var x = 1; var y = 2; var on = true; "
        text += "for (j = 0 to 5) { a[j] = j; b[j] = 5 - j; } "
        if self.chance.randrange(2):
            return text + loop + self.pick("", loop, " b = a; " + loop) + " print x;"
        return text + "proc p(a, x) { var on = false; " + loop + " } p(a, 1); p(b, x);" + self.pick("", " ahead p(b, 2); p(a, 0);")

    def block(self, depth):
        return " ".join(self.statement(depth) for _ in range(self.chance.randrange(1, 4)))

    def statement(self, depth):
        if depth and self.chance.randrange(3) == 0:
            return f"if ({self.test()}) {{ {self.block(depth - 1)} }} else {{ {self.block(depth - 1)} }}"
        return self.pick(
            f"x = {self.number()};", f"y = {self.number()};", f"{self.item()} = {self.number()};", f"{self.item()} = {self.number()};",
            f"print {self.number()};", f"on = {self.test()};",
        )

    def item(self):
        other = self.pick("i", "0", "x", "i + 1") if self.chance.randrange(12) == 0 else self.index
        return f"{self.pick('a', 'b')}[{other}]"

    def number(self):
        return self.pick("i", "3", "x", "y", self.item(), f"{self.item()} + 1", "i * 2", "size(a)", f"{self.item()} - {self.item()}")

    def test(self):
        return self.pick("true", "on", f"{self.item()} < {self.number()}", "i == 2", "i < 2 and on", "on or i == 1")


class TestWhatHolds(Case):
    """[l10]"""

    def disturbed(self, program, inputs, limit):
        """Returns the lines of loops in whose body a place is written in one turn and then read of others in another."""
        code = program.code
        bodies = [(at - 1, at + 2, code[at + 1][1] - 1) for at in range(1, len(code) - 1)
                  if code[at][0] == "test" and code[at + 1][0] == "spawn" and code[code[at + 1][1]] == ("next", at)]
        run = Serial(program, inputs)
        written = {}
        own = {}
        found = {}
        turns = 0
        while run.moment < limit and run.ended is None:
            told = next_action(run)
            for each, first, finish in bodies:
                if first <= run.local[0] < finish and told[0] in ("read", "write"):
                    turns += 1
                    # The innermost loop that the control tells, but for inner ones, is the one whose each has the same end.
                    counters = [entry[2] for entry in run.local[4] if entry[0] == "count" and entry[1] == code[each][1]]
                    key = (each, told[1])
                    if told[0] == "write":
                        written.setdefault(key, {})[counters[0]] = True
                    elif (run.task, told[1]) not in own:
                        if any(counter != counters[0] for counter in written.get(key, {})):
                            found[program.lines[each], each] = True
            if told[0] == "write":
                own[(run.task, told[1])] = True
            serial_step(run)
        return found, turns

    def test_separate_loops_are_never_disturbed(self):
        separate = others = disturbed = 0
        programs = tuple((LoopMaker(seed).program(), ()) for seed in range(400)) + WRITTEN + races(60, 2000) + made(40, 2800)
        for text, inputs in programs:
            program = program_of(text)
            rows = separate_loops(program)
            found, turns = self.disturbed(program, inputs, 1500)
            eaches = [at - 1 for at in range(1, len(program.code) - 1) if program.code[at][0] == "test"
                      and program.code[at + 1][0] == "spawn"
                      and program.code[program.code[at + 1][1]] == ("next", at)]
            with self.subTest(text=text):
                self.assertEqual([row[0] for row in rows], [program.lines[each] for each in eaches])
                for row, each in zip(rows, eaches):
                    if row[1]:
                        separate += 1 if turns else 0
                        self.assertNotIn((row[0], each), found)
                    else:
                        others += 1
                        disturbed += 1 if (row[0], each) in found else 0
        self.assertGreater(separate, 120)
        self.assertGreater(others, 120)
        self.assertGreater(disturbed, 60)


if __name__ == "__main__":
    unittest.main()
