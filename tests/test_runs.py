"""[c13], [h4]: steps of a task that runs before its turn."""

import unittest

from foretask.program import Program
from foretask.runs import begun, run_step
from foretask.steps import beginning
from tests.support import FRAME, NONE, THING, TOP, TRUE, Case, integer, program_of, text_value

CUT = ("cut",)
GUARD = ("guard", 9, THING)
TASK = (4, 1)
P0 = ((), 0, 0)
P1 = ((), 0, 1)
OWN = ((1,), 4, 2)
MEMORY = {P0: integer(1), OWN: TRUE}
# What a run has written before: the newest first.
WRITES = ((((), 0, 3), integer(30)), (((), 0, 4), NONE))


class RunCase(Case):
    def step(self, instruction, operands=(), control=(), writes=WRITES, memory=None):
        """Returns the run before a step at this instruction, and what the step returns."""
        code = (("halt",), instruction) + (("halt",),) * 10
        program = Program(code, (1,) * 12, (("pair", ("f",)),), ("v", "w"), (("p", ("a",), 7),))
        run = ((1, operands, FRAME, TOP, control), writes, 3, 2, 50)
        given = {**(MEMORY if memory is None else memory)}
        kept = {**given}
        found = run_step(program, TASK, run, given)
        self.assertEqual(given, kept)
        self.assertEqual(run, ((1, operands, FRAME, TOP, control), writes, 3, 2, 50))
        return run, found

    def local(self, address=2, operands=(), control=()):
        return (address, operands, FRAME, TOP, control)

    def after(self, local, writes=WRITES, made=3, spawned=2):
        return (local, writes, made, spawned, 51)


class TestRunStep(RunCase):
    def test_begun(self):
        for local in (beginning(), self.local(7, (TRUE,), (CUT,))):
            self.assertEqual(begun(local), (local, (), 0, 0, 0))

    def test_quiet(self):
        _, found = self.step(("push", TRUE), (NONE,))
        self.assertEqual(found, (self.after(self.local(operands=(TRUE, NONE))), None, None))
        _, found = self.step(("jump", 9))
        self.assertEqual(found, (self.after(self.local(9)), None, None))
        _, found = self.step(("not",), (NONE,), (GUARD,))
        self.assertEqual(found, (self.after((9, (text_value("kind"),), THING, TOP, ())), None, None))

    def test_read_of_a_place_that_the_run_has_not_written(self):
        for variable, place, value in ((("top", 0), P0, integer(1)), (("own", 2), OWN, TRUE), (("top", 1), P1, NONE),
                                       (("own", 3), ((1,), 4, 3), NONE)):
            run, found = self.step(("load", variable), (THING,))
            self.assertEqual(found, (self.after(self.local(operands=(value, THING))), (place, value, run), None))

    def test_read_of_a_place_that_the_run_has_written(self):
        for number, value in ((3, integer(30)), (4, NONE)):
            # The memory holds another value, or none.
            for memory in (MEMORY, {((), 0, number): integer(99)}):
                _, found = self.step(("load", ("top", number)), (THING,), memory=memory)
                self.assertEqual(found, (self.after(self.local(operands=(value, THING))), None, None))

    def test_write(self):
        for value in (integer(5), THING, NONE):
            _, found = self.step(("store", ("own", 2)), (value, TRUE))
            self.assertEqual(found, (self.after(self.local(operands=(TRUE,)), ((OWN, value),) + WRITES), None, None))

    def test_a_place_that_is_written_again_moves_to_the_front(self):
        for value in (integer(5), integer(30), NONE):
            for number, rest in ((3, WRITES[1:]), (4, WRITES[:1])):
                _, found = self.step(("store", ("top", number)), (value,))
                self.assertEqual(found[0][1], ((((), 0, number), value),) + rest)

    def test_make(self):
        thing = ("object", TASK, 3)
        _, found = self.step(("make",), (TRUE,))
        self.assertEqual(found, (self.after(self.local(operands=(thing, TRUE)), made=4), None, None))
        _, found = self.step(("call", 0, 1), (TRUE,), (CUT,))
        local = (7, (TRUE,), thing, TOP, (("call", 2, FRAME), CUT))
        self.assertEqual(found, (self.after(local, made=4), None, None))
        _, found = self.step(("enter",))
        self.assertEqual(found, (self.after((2, (), thing, thing, ()), made=4), None, None))

    def test_spawn(self):
        _, found = self.step(("spawn", 9), (TRUE,), (GUARD,))
        child = ((4, 1, 2), self.local(9, (TRUE,), (GUARD,)))
        self.assertEqual(found, (self.after(self.local(2, (TRUE,), (CUT, GUARD)), spawned=3), None, child))

    def test_waiting(self):
        for instruction, operands, control in (
            (("print",), (TRUE,), ()), (("input",), (), ()), (("finish",), (), ()), (("halt",), (), (CUT,)),
            (("throw",), (TRUE,), ()), (("not",), (NONE,), (CUT,)), (("throw",), (TRUE,), (CUT, GUARD)),
            (("break",), (), (CUT, CUT, ("loop", 9))), (("return",), (TRUE,), (CUT, ("call", 9, FRAME))),
        ):
            _, found = self.step(instruction, operands, control)
            self.assertIsNone(found)

    def test_leaving_without_cuts_does_not_wait(self):
        for instruction, operands, control in (
            (("throw",), (TRUE,), (GUARD,)), (("break",), (), (("loop", 9),)), (("return",), (TRUE,), (("call", 9, FRAME),)),
        ):
            _, found = self.step(instruction, operands, control)
            self.assertEqual(found[0][0][0], 9)
            self.assertEqual(found[0][4], 51)

    def test_errors_on_the_way(self):
        # An integer that was no number of items when it was read too early.
        _, found = self.step(("item",), (integer(0), NONE, THING), (GUARD,))
        self.assertEqual(found[0][0], (9, (text_value("kind"),), THING, TOP, ()))


class TestRunOfAProgram(Case):
    def test_a_run_from_the_beginning(self):
        program = program_of("var v = 1;\nvar w = v;\nv = none;\nw = v;\nahead p();\nproc p() { }\nprint w;")
        memory = {P0: integer(7), P1: integer(8)}
        run = begun(beginning())
        readings = []
        children = []
        while True:
            found = run_step(program, (), run, memory)
            if found is None:
                break
            run, reading, child = found
            readings += [reading] if reading else []
            children += [child] if child else []
        # It stops before finish. Its own writes are read, so nothing comes from the memory.
        self.assertEqual(readings, [])
        self.assertEqual([name for name, _ in children], [(0,)])
        top = ("object", (), 0)
        self.assertEqual(run[1], ((P1, NONE), (P0, NONE)))
        self.assertEqual((run[2], run[3], run[4]), (2, 1, 14))
        self.assertEqual((run[0][2], run[0][3], run[0][4]), (top, top, (CUT,)))
        self.assertEqual(memory, {P0: integer(7), P1: integer(8)})


if __name__ == "__main__":
    unittest.main()
