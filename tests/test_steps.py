"""[p3], [p4], [c11], [c12]: the action of every instruction, and what comes to a local state."""

import unittest

from foretask.program import Program
from foretask.steps import action, beginning, waits, with_object, with_value
from tests.support import FALSE, FRAME, NONE, THING, TOP, TRUE, Case, integer, text_value

# The address of the instruction that is looked at; the top of the local state is no object of the program's.
HERE = 5
TOPS = ("object", (3,), 0)
OTHER = ("object", (9,), 8)
GUARD = ("guard", 12, OTHER)
CONTROL = (("loop", 77), ("cut",), ("call", 88, OTHER))
# Operands below those that an instruction takes.
BELOW = (integer(70), THING, TRUE)
RECORDS = (("pair", ("left", "right")), ("one", ("right",)))
PROCEDURES = (("p", (), 40), ("q", ("a", "b"), 50))
ONE_OF_EACH = (NONE, TRUE, FALSE, integer(0), integer(1), integer(-7), text_value(""), text_value("pair"), THING)
BOUND = 10 ** 60


def program_with(instruction):
    code = (("halt",),) * HERE + (instruction, ("halt",))
    return Program(code, (1,) * len(code), RECORDS, ("v", "w"), PROCEDURES)


class StepCase(Case):
    def act(self, instruction, operands, control=CONTROL):
        return action(program_with(instruction), (HERE, operands, FRAME, TOPS, control))

    def check(self, instruction, operands, wanted, control=CONTROL):
        with self.subTest(instruction=instruction, operands=operands, control=control):
            self.assertEqual(self.act(instruction, operands, control), wanted)

    def quiet(self, instruction, operands, after, address=HERE + 1):
        """The action is quiet; only the operands and the address change."""
        self.check(instruction, operands, ("quiet", (address, after, FRAME, TOPS, CONTROL)))
        self.check(instruction, operands, ("quiet", (address, after, FRAME, TOPS, ())), control=())

    def error(self, instruction, operands, words):
        """The action is that of the exception: with a guard, with a cut before it, and without a guard."""
        value = text_value(words)
        after = (12, (value,), OTHER, TOPS, CONTROL)
        self.check(instruction, operands, ("quiet", after), control=(GUARD,) + CONTROL)
        self.check(instruction, operands, ("give_up", 1, after), control=(("cut",), GUARD) + CONTROL)
        self.check(instruction, operands, ("fail", value))

    def goes_on(self, operands):
        return (HERE + 1, operands, FRAME, TOPS, CONTROL)

    def place(self, thing, cell):
        return (thing[1], thing[2], cell)


class TestOperands(StepCase):
    def test_push(self):
        for value in ONE_OF_EACH[:-1]:
            self.quiet(("push", value), BELOW, (value,) + BELOW)
            self.quiet(("push", value), (), (value,))

    def test_not(self):
        self.quiet(("not",), (TRUE,) + BELOW, (FALSE,) + BELOW)
        self.quiet(("not",), (FALSE,), (TRUE,))
        for value in ONE_OF_EACH:
            if value[0] != "bool":
                self.error(("not",), (value,) + BELOW, "kind")

    def test_minus(self):
        self.quiet(("minus",), (integer(3),) + BELOW, (integer(-3),) + BELOW)
        self.quiet(("minus",), (integer(0),), (integer(0),))
        self.quiet(("minus",), (integer(1 - BOUND),), (integer(BOUND - 1),))
        for value in ONE_OF_EACH:
            if value[0] != "int":
                self.error(("minus",), (value,) + BELOW, "kind")

    def test_both(self):
        for op, a, b, wanted in (
            ("+", 7, 2, integer(9)), ("-", 7, 2, integer(5)), ("*", 7, 2, integer(14)), ("/", 7, 2, integer(3)),
            ("mod", 7, 2, integer(1)), ("<", 7, 2, FALSE), ("<", 2, 7, TRUE), ("<=", 7, 7, TRUE), ("<=", 8, 7, FALSE),
            ("==", 7, 2, FALSE), ("==", 2, 2, TRUE),
        ):
            # The last one named was on top: b.
            self.quiet(("both", op), (integer(b), integer(a)) + BELOW, (wanted,) + BELOW)
            self.quiet(("both", op), (integer(b), integer(a)), (wanted,))
        self.quiet(("both", "&"), (text_value("b"), text_value("a")) + BELOW, (text_value("ab"),) + BELOW)
        self.quiet(("both", "=="), (THING, THING), (TRUE,))
        self.quiet(("both", "=="), (TOP, THING), (FALSE,))
        self.quiet(("both", "=="), (NONE, NONE), (TRUE,))

    def test_errors_of_both(self):
        self.error(("both", "+"), (integer(1), integer(BOUND - 1)) + BELOW, "overflow")
        self.error(("both", "/"), (integer(0), integer(1)) + BELOW, "division by zero")
        self.error(("both", "mod"), (integer(0), integer(1)), "division by zero")
        self.error(("both", "&"), (text_value("a"), text_value("b" * 200)), "size")
        for op in ("+", "-", "*", "/", "mod", "<", "<=", "&"):
            self.error(("both", op), (TRUE, integer(1)) + BELOW, "kind")
            self.error(("both", op), (integer(1), THING), "kind")

    def test_drop(self):
        for value in ONE_OF_EACH:
            self.quiet(("drop",), (value,) + BELOW, BELOW)
            self.quiet(("drop",), (value,), ())

    def test_sized(self):
        for value in (integer(0), integer(-4), integer(41)):
            self.quiet(("sized",), (value,) + BELOW, (value,) + BELOW)
        for value in ONE_OF_EACH:
            if value[0] != "int":
                self.error(("sized",), (value,) + BELOW, "kind")

    def test_check_size(self):
        for size in (0, 1, 39, 40):
            self.quiet(("check_size",), (integer(size),) + BELOW, (integer(size),) + BELOW)
        for size in (-1, 41, BOUND - 1):
            self.error(("check_size",), (integer(size),) + BELOW, "size")
        for value in ONE_OF_EACH:
            if value[0] != "int":
                self.error(("check_size",), (value,) + BELOW, "kind")

    def test_print(self):
        for value in ONE_OF_EACH[:-1]:
            self.check(("print",), (value,) + BELOW, ("output", value, self.goes_on(BELOW)))
            self.check(("print",), (value,), ("output", value, self.goes_on(())))
        self.error(("print",), (THING,) + BELOW, "kind")

    def test_input(self):
        self.check(("input",), (), ("input", self.goes_on(())))
        self.check(("input",), BELOW, ("input", self.goes_on(BELOW)))


class TestJumps(StepCase):
    def test_jump(self):
        for n in (0, 3, HERE, 90):
            self.quiet(("jump", n), BELOW, BELOW, address=n)

    def test_jump_not(self):
        self.quiet(("jump_not", 90), (FALSE,) + BELOW, BELOW, address=90)
        self.quiet(("jump_not", 90), (TRUE,) + BELOW, BELOW)
        self.other_values("jump_not")

    def test_and_jump(self):
        self.quiet(("and_jump", 90), (FALSE,) + BELOW, (FALSE,) + BELOW, address=90)
        self.quiet(("and_jump", 90), (TRUE,) + BELOW, BELOW)
        self.other_values("and_jump")

    def test_or_jump(self):
        self.quiet(("or_jump", 90), (TRUE,) + BELOW, (TRUE,) + BELOW, address=90)
        self.quiet(("or_jump", 90), (FALSE,) + BELOW, BELOW)
        self.other_values("or_jump")

    def other_values(self, kind):
        for value in ONE_OF_EACH:
            if value[0] != "bool":
                self.error((kind, 90), (value,) + BELOW, "kind")


class TestPlaces(StepCase):
    def test_load(self):
        for k in (0, 6):
            self.check(("load", ("own", k)), BELOW, ("read", ((1,), 4, k), self.goes_on(BELOW)))
            self.check(("load", ("top", k)), BELOW, ("read", ((3,), 0, k), self.goes_on(BELOW)))

    def test_store(self):
        for value in ONE_OF_EACH:
            for k in (0, 6):
                self.check(("store", ("own", k)), (value,) + BELOW, ("write", ((1,), 4, k), value, self.goes_on(BELOW)))
                self.check(("store", ("top", k)), (value,), ("write", ((3,), 0, k), value, self.goes_on(())))

    def test_kind(self):
        for thing in (THING, OTHER):
            stays = (thing,) + BELOW
            self.check(("kind",), stays, ("read", self.place(thing, 0), self.goes_on(stays)))
        for value in ONE_OF_EACH[:-1]:
            self.error(("kind",), (value,) + BELOW, "kind")

    def test_field(self):
        for kind, name, cell in (("pair", "left", 1), ("pair", "right", 2), ("one", "right", 1)):
            self.check(("field", name), (text_value(kind), THING) + BELOW,
                       ("read", self.place(THING, cell), self.goes_on(BELOW)))
        for held, name in (("one", "left"), ("none", "left"), ("pair", "up")):
            self.error(("field", name), (text_value(held), THING) + BELOW, "field")
        for held in (NONE, integer(3), TRUE, OTHER):
            self.error(("field", "left"), (held, THING), "field")

    def test_item(self):
        for at in (0, 1, 2):
            self.check(("item",), (integer(at), integer(3), THING) + BELOW,
                       ("read", self.place(THING, at + 1), self.goes_on(BELOW)))
        for at in (-1, 3, 4):
            self.error(("item",), (integer(at), integer(3), THING) + BELOW, "index")
        for value in ONE_OF_EACH:
            if value[0] != "int":
                self.error(("item",), (value, integer(3), THING) + BELOW, "kind")
                self.error(("item",), (integer(0), value, THING), "kind")

    def test_size(self):
        for characters in ("", "a", "a\n" * 100):
            self.quiet(("size",), (text_value(characters),) + BELOW, (integer(len(characters)),) + BELOW)
        self.check(("size",), (THING,) + BELOW, ("read", self.place(THING, 0), self.goes_on(BELOW)))
        for value in (NONE, TRUE, FALSE, integer(0), integer(5)):
            self.error(("size",), (value,) + BELOW, "kind")

    def test_make(self):
        self.check(("make",), BELOW, ("make", "operand", self.goes_on(BELOW)))
        self.check(("make",), (), ("make", "operand", self.goes_on(())))

    def test_tag(self):
        stays = (THING,) + BELOW
        self.check(("tag", "pair"), stays, ("write", self.place(THING, 0), text_value("pair"), self.goes_on(stays)))

    def test_tag_size(self):
        self.check(("tag_size",), (THING, integer(3)) + BELOW,
                   ("write", self.place(THING, 0), integer(3), self.goes_on((THING,) + BELOW)))

    def test_set_field(self):
        for value in ONE_OF_EACH:
            self.check(("set_field", "right"), (value, text_value("pair"), THING) + BELOW,
                       ("write", self.place(THING, 2), value, self.goes_on(BELOW)))
        for held in (text_value("two"), NONE, integer(3)):
            self.error(("set_field", "right"), (integer(1), held, THING) + BELOW, "field")
        self.error(("set_field", "left"), (integer(1), text_value("one"), THING), "field")

    def test_set_item(self):
        for value in ONE_OF_EACH:
            self.check(("set_item",), (value, integer(1), integer(2), THING) + BELOW,
                       ("write", self.place(THING, 2), value, self.goes_on(BELOW)))
        for at in (-1, 2, 40):
            self.error(("set_item",), (TRUE, integer(at), integer(2), THING) + BELOW, "index")
        for value in ONE_OF_EACH:
            if value[0] != "int":
                self.error(("set_item",), (TRUE, value, integer(2), THING) + BELOW, "kind")
                self.error(("set_item",), (TRUE, integer(0), value, THING), "kind")

    def test_enter(self):
        self.check(("enter",), (), ("make", "both", self.goes_on(())))
        self.check(("enter",), BELOW, ("make", "both", self.goes_on(BELOW)))


class TestControl(StepCase):
    def test_counter(self):
        counts = (("count", 1, 10, 99), ("count", 2, 20, 99), ("count", 3, -30, 99))
        inner, middle, outer = counts
        call = ("call", 88, OTHER)
        others = (("loop", 5), ("cut",), GUARD)
        for control, found in (
            (counts, (10, 20, -30)),
            (others + (inner,) + others + (middle, outer), (10, 20, -30)),
            ((inner, call, middle, outer), (10,)),
            ((call,) + counts, ()),
            (others, ()),
            ((), ()),
            ((middle, outer, call, inner), (20, -30)),
        ):
            for d in range(4):
                value = integer(found[d]) if d < len(found) else NONE
                self.check(("counter", d), BELOW, ("quiet", (HERE + 1, (value,) + BELOW, FRAME, TOPS, control)),
                           control=control)

    def test_call(self):
        entry = ("call", HERE + 1, FRAME)
        for f, count, address in ((0, 0, 40), (1, 2, 50)):
            operands = BELOW[:count]
            for control in ((), CONTROL):
                self.check(("call", f, count), operands,
                           ("make", "frame", (address, operands, FRAME, TOPS, (entry,) + control)), control=control)

    def test_call_takes_the_operands_on_top_alone(self):
        self.check(("call", 1, 2), (integer(2), integer(1)) + BELOW,
                   ("make", "frame", (50, (integer(2), integer(1)), FRAME, TOPS, (("call", HERE + 1, FRAME),))), control=())

    def test_calls_within_one_another(self):
        entry = ("call", HERE + 1, FRAME)
        calls = tuple(("call", n, OTHER) for n in range(13))
        others = (("loop", 5), ("cut",), ("count", 3, 1, 2))
        for control in (calls[:11], others + calls[:11], tuple(x for call in calls[:11] for x in (call,) + others)):
            self.check(("call", 1, 1), (TRUE,), ("make", "frame", (50, (TRUE,), FRAME, TOPS, (entry,) + control)),
                       control=control)
        for count in (12, 13):
            control = others + calls[:count]
            self.check(("call", 0, 0), BELOW, ("fail", text_value("too deep")), control=control)
            control = calls[:count - 1] + (("cut",), GUARD) + calls[count - 1:count] + others
            after = (12, (text_value("too deep"),), OTHER, TOPS, calls[count - 1:count] + others)
            self.check(("call", 0, 0), BELOW, ("give_up", 1, after), control=control)

    def test_return(self):
        rest = (("cut",), ("call", 99, THING), ("loop", 3))
        for value in ONE_OF_EACH:
            self.check(("return",), (value,) + BELOW, ("quiet", (88, (value,), OTHER, TOPS, rest)),
                       control=(("call", 88, OTHER),) + rest)
        inner = (("loop", 77), GUARD, ("count", 2, 1, 3))
        after = (88, (TRUE,), OTHER, TOPS, rest)
        self.check(("return",), (TRUE,), ("quiet", after), control=inner + (("call", 88, OTHER),) + rest)
        for cuts in (1, 3):
            self.check(("return",), (TRUE,), ("give_up", cuts, after),
                       control=inner + (("cut",),) * cuts + (("call", 88, OTHER),) + rest)

    def test_break(self):
        rest = (("cut",), ("count", 4, 1, 2), ("loop", 3), ("call", 99, THING))
        for entry in (("loop", 66), ("count", 66, 4, 9)):
            after = (66, (), FRAME, TOPS, rest)
            self.check(("break",), BELOW, ("quiet", after), control=(entry,) + rest)
            self.check(("break",), (), ("quiet", after), control=(GUARD, entry) + rest)
            for cuts in (1, 2):
                self.check(("break",), (), ("give_up", cuts, after), control=(GUARD,) + (("cut",),) * cuts + (entry,) + rest)

    def test_throw(self):
        for value in ONE_OF_EACH[:-1]:
            after = (12, (value,), OTHER, TOPS, CONTROL)
            self.check(("throw",), (value,) + BELOW, ("quiet", after), control=(GUARD,) + CONTROL)
            self.check(("throw",), (value,), ("give_up", 2, after), control=(("cut",), ("cut",), GUARD) + CONTROL)
            self.check(("throw",), (value,), ("fail", value))
        self.error(("throw",), (THING,) + BELOW, "kind")

    def test_guard_and_loop(self):
        for control in ((), CONTROL):
            after = (HERE + 1, BELOW, FRAME, TOPS, (("guard", 33, FRAME),) + control)
            self.check(("guard", 33), BELOW, ("quiet", after), control=control)
            after = (HERE + 1, BELOW, FRAME, TOPS, (("loop", 33),) + control)
            self.check(("loop", 33), BELOW, ("quiet", after), control=control)

    def test_each(self):
        for low, high in ((1, 5), (5, 1), (-3, -3), (0, BOUND - 1)):
            for control in ((), CONTROL):
                entry = ("count", 33, low, high)
                # a, the first turn, lies below b, the last one.
                self.check(("each", 33), (integer(high), integer(low)) + BELOW,
                           ("quiet", (HERE + 1, BELOW, FRAME, TOPS, (entry,) + control)), control=control)
        self.assertIs(self.act(("each", 33), (integer(2), integer(1)))[1][4][0][2].__class__, int)
        for value in ONE_OF_EACH:
            if value[0] != "int":
                self.error(("each", 33), (value, integer(1)) + BELOW, "kind")
                self.error(("each", 33), (integer(1), value), "kind")

    def test_unguard_and_end_loop(self):
        for kind, entries in (("unguard", (GUARD,)), ("end_loop", (("loop", 4), ("count", 4, 1, 2)))):
            for entry in entries:
                for rest in ((), CONTROL):
                    self.check((kind,), BELOW, ("quiet", (HERE + 1, BELOW, FRAME, TOPS, rest)), control=(entry,) + rest)

    def test_test(self):
        for counter, last, address in ((1, 3, HERE + 1), (3, 3, HERE + 1), (4, 3, 90), (9, 3, 90), (-1, -2, 90)):
            control = (("count", 66, counter, last),) + CONTROL
            self.check(("test", 90), BELOW, ("quiet", (address, BELOW, FRAME, TOPS, control)), control=control)

    def test_next(self):
        for counter in (-1, 0, 3, 8):
            control = (("count", 66, counter, 3),) + CONTROL
            after = (90, BELOW, FRAME, TOPS, (("count", 66, counter + 1, 3),) + CONTROL)
            self.check(("next", 90), BELOW, ("quiet", after), control=control)

    def test_spawn(self):
        for control in ((), CONTROL):
            for operands in ((), BELOW):
                child = (90, operands, FRAME, TOPS, control)
                after = (HERE + 1, operands, FRAME, TOPS, (("cut",),) + control)
                self.check(("spawn", 90), operands, ("spawn", child, after), control=control)

    def test_finish_and_halt(self):
        for kind in ("finish", "halt"):
            for control in ((), CONTROL):
                self.check((kind,), BELOW, ("stop",), control=control)


class TestLocalStates(Case):
    REST = (7, BELOW, FRAME, TOPS, CONTROL)

    def test_beginning(self):
        self.assertEqual(beginning(), (0, (), ("object", (), 0), ("object", (), 0), ()))

    def test_with_value(self):
        for value in ONE_OF_EACH:
            self.assertEqual(with_value(self.REST, value), (7, (value,) + BELOW, FRAME, TOPS, CONTROL))
        self.assertEqual(with_value((0, (), TOP, TOP, ()), TRUE), (0, (TRUE,), TOP, TOP, ()))

    def test_with_object(self):
        for use, wanted in (
            ("operand", (7, (OTHER,) + BELOW, FRAME, TOPS, CONTROL)),
            ("frame", (7, BELOW, OTHER, TOPS, CONTROL)),
            ("both", (7, BELOW, OTHER, OTHER, CONTROL)),
        ):
            with self.subTest(use=use):
                self.assertEqual(with_object(self.REST, use, OTHER), wanted)

    def test_waits(self):
        for kind in ("output", "input", "give_up", "stop", "fail"):
            self.assertIs(waits(kind), True)
        for kind in ("quiet", "read", "write", "make", "spawn"):
            self.assertIs(waits(kind), False)


if __name__ == "__main__":
    unittest.main()
