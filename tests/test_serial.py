"""[q1] to [q3], [c14]: the sequential run, step by step."""

import unittest

from foretask.program import Program
from foretask.serial import Serial, next_action, run_serial, serial_step, value_of
from foretask.steps import action, beginning
from tests.support import FALSE, FRAME, NONE, THING, TOP, TRUE, Case, integer, program_of, text_value

GUARD = ("guard", 9, FRAME)
CUT = ("cut",)
FIELDS = ("memory", "out", "left", "task", "local", "made", "spawned", "behind", "ended", "moment")
COUNTING = "var n = 0; while (true) { n = n + 1; }"


def run_at(*instructions, operands=(), control=()):
    """Returns a run that is about to make the first of these instructions, somewhere in the middle of its way."""
    code = instructions + (("halt",),) * (20 - len(instructions))
    run = Serial(Program(code, (1,) * 20, (("pair", ("f",)),), ("v",), ()), [integer(8), text_value("in")])
    run.local = (0, operands, FRAME, TOP, control)
    run.task = (4, 1)
    run.made = 3
    run.spawned = 2
    run.moment = 50
    run.memory = {((), 0, 0): integer(1), ((1,), 4, 2): TRUE}
    run.out = [integer(6)]
    run.behind = [((4, 0), (5, (), FRAME, TOP, (CUT,))), ((3,), (6, (), FRAME, TOP, ()))]
    return run


class SerialCase(Case):
    def fields(self, run):
        return {name: getattr(run, name) for name in FIELDS}

    def copied(self, run):
        fields = self.fields(run)
        for name in ("memory", "out", "left", "behind"):
            fields[name] = fields[name].copy()
        return fields

    def step(self, run, **changed):
        """Makes one step, and checks every field behind it: those that are not named are as they were."""
        wanted = self.copied(run)
        wanted["moment"] += 1
        wanted.update(changed)
        program = run.program
        self.assertEqual(next_action(run), action(program, run.local))
        self.assertIs(serial_step(run), True)
        self.assertEqual(self.fields(run), wanted)
        self.assertIs(run.program, program)

    def local(self, address=1, operands=(), control=()):
        return (address, operands, FRAME, TOP, control)


class TestSteps(SerialCase):
    def test_quiet(self):
        self.step(run_at(("push", TRUE), operands=(NONE,)), local=self.local(operands=(TRUE, NONE)))
        self.step(run_at(("jump", 7)), local=self.local(7))

    def test_read(self):
        for variable, value in ((("top", 0), integer(1)), (("own", 2), TRUE), (("own", 0), NONE), (("top", 9), NONE)):
            self.step(run_at(("load", variable), operands=(THING,)), local=self.local(operands=(value, THING)))

    def test_write(self):
        for place, variable in ((((), 0, 0), ("top", 0)), (((1,), 4, 7), ("own", 7))):
            for value in (integer(5), text_value(""), THING, FALSE):
                run = run_at(("store", variable), operands=(value, TRUE))
                memory = {**run.memory, place: value}
                self.step(run, local=self.local(operands=(TRUE,)), memory=memory)

    def test_write_of_none(self):
        run = run_at(("store", ("top", 0)), operands=(NONE,))
        self.step(run, local=self.local(), memory={((1,), 4, 2): TRUE})
        self.assertEqual(value_of(run.memory, ((), 0, 0)), NONE)
        # A place that holds NONE already.
        run = run_at(("store", ("top", 5)), operands=(NONE,))
        self.step(run, local=self.local())

    def test_make(self):
        thing = ("object", (4, 1), 3)
        self.step(run_at(("make",), operands=(TRUE,)), local=self.local(operands=(thing, TRUE)), made=4)
        self.step(run_at(("enter",)), local=(1, (), thing, thing, ()), made=4)
        run = run_at(("call", 0, 1), operands=(TRUE,))
        run.program.procedures = (("p", ("a",), 13),)
        self.step(run, local=(13, (TRUE,), thing, TOP, (("call", 1, FRAME),)), made=4)

    def test_output(self):
        for value in (integer(5), NONE, text_value("\n")):
            self.step(run_at(("print",), operands=(value, TRUE)), local=self.local(operands=(TRUE,)),
                      out=[integer(6), value])

    def test_input(self):
        run = run_at(("input",), ("input",), ("input",), ("input",))
        self.step(run, local=self.local(1, (integer(8),)), left=[text_value("in")])
        self.step(run, local=self.local(2, (text_value("in"), integer(8))), left=[])
        self.step(run, local=self.local(3, (NONE, text_value("in"), integer(8))))
        self.step(run, local=self.local(4, (NONE, NONE, text_value("in"), integer(8))))

    def test_spawn(self):
        run = run_at(("spawn", 9), ("spawn", 7), operands=(TRUE,), control=(GUARD,))
        waiting = list(run.behind)
        first = ((4, 1, 2), self.local(9, (TRUE,), (GUARD,)))
        self.step(run, local=self.local(1, (TRUE,), (CUT, GUARD)), spawned=3, behind=[first] + waiting)
        second = ((4, 1, 3), self.local(7, (TRUE,), (CUT, GUARD)))
        self.step(run, local=self.local(2, (TRUE,), (CUT, CUT, GUARD)), spawned=4, behind=[second, first] + waiting)

    def test_give_up(self):
        for cuts, left in ((1, 1), (2, 0), (3, 0), (7, 0)):
            run = run_at(("throw",), operands=(TRUE,), control=(CUT,) * cuts + (GUARD,))
            waiting = run.behind[len(run.behind) - left:]
            self.step(run, local=self.local(9, (TRUE,)), behind=waiting)
        run = run_at(("throw",), operands=(TRUE,), control=(CUT, GUARD))
        run.behind = []
        self.step(run, local=self.local(9, (TRUE,)))

    def test_stop_with_waiting_tasks(self):
        for kind in ("finish", "halt"):
            run = run_at((kind,))
            run.program.code = ((kind,),) * 10
            self.step(run, task=(4, 0), local=self.local(5, (), (CUT,)), made=0, spawned=0, behind=run.behind[1:])
            self.step(run, task=(3,), local=self.local(6), behind=[])
            self.step(run, ended=("done",))
            self.at_the_end(run)

    def test_stop_without_waiting_tasks(self):
        run = run_at(("halt",), operands=(TRUE,))
        run.behind = []
        # The task, its local state and its numbers stay.
        self.step(run, ended=("done",))
        self.assertEqual((run.task, run.made, run.spawned), ((4, 1), 3, 2))
        self.at_the_end(run)

    def test_fail(self):
        run = run_at(("throw",), operands=(text_value("x"), TRUE), control=(CUT, CUT))
        self.step(run, ended=("failed", text_value("x")))
        self.assertEqual(len(run.behind), 2)
        self.at_the_end(run)

    def test_an_error_fails(self):
        run = run_at(("not",), operands=(NONE,))
        self.step(run, ended=("failed", text_value("kind")))
        self.at_the_end(run)

    def at_the_end(self, run):
        """Nothing changes any more."""
        before = self.copied(run)
        for _ in range(3):
            self.assertIsNone(next_action(run))
            self.assertIs(serial_step(run), False)
            self.assertEqual(self.fields(run), before)


class TestRuns(SerialCase):
    def test_beginning(self):
        program = program_of("print 1;")
        run = Serial(program, [TRUE])
        self.assertIs(run.program, program)
        self.assertEqual(self.fields(run), {
            "memory": {}, "out": [], "left": [TRUE], "task": (), "local": beginning(), "made": 0, "spawned": 0,
            "behind": [], "ended": None, "moment": 0,
        })

    def test_next_action_changes_nothing(self):
        program = program_of("var v = read(); ahead p(); proc p() { v = none; } print v; throw 1;")
        run = Serial(program, [TRUE, FALSE])
        while run.ended is None:
            before = self.copied(run)
            self.assertEqual(next_action(run), action(program, run.local))
            self.assertEqual(next_action(run), action(program, run.local))
            self.assertEqual(self.fields(run), before)
            serial_step(run)

    def test_a_program_step_by_step(self):
        program = program_of("var v = 3;\nahead p(v);\nprint v;\nproc p(a) { v = a + 1; }\n")
        run = Serial(program, ())
        frame = ("object", (), 1)
        # enter, push, store, spawn, load, call, store (own), load, push, both, store, push, return, drop, finish,
        # and in the task (0,): load, print, halt.
        wanted = [
            ((), 1, 0, [], {}), ((), 1, 0, [], {}), ((), 1, 0, [], {((), 0, 0): integer(3)}),
            ((), 1, 1, [(0,)], {((), 0, 0): integer(3)}), ((), 1, 1, [(0,)], {((), 0, 0): integer(3)}),
            ((), 2, 1, [(0,)], {((), 0, 0): integer(3)}),
            ((), 2, 1, [(0,)], {((), 0, 0): integer(3), ((), 1, 0): integer(3)}),
            ((), 2, 1, [(0,)], None), ((), 2, 1, [(0,)], None), ((), 2, 1, [(0,)], None),
            ((), 2, 1, [(0,)], {((), 0, 0): integer(4), ((), 1, 0): integer(3)}),
            ((), 2, 1, [(0,)], None), ((), 2, 1, [(0,)], None), ((), 2, 1, [(0,)], None), ((0,), 0, 0, [], None),
            ((0,), 0, 0, [], None), ((0,), 0, 0, [], None), ((0,), 0, 0, [], None),
        ]
        for moment, (task, made, spawned, behind, memory) in enumerate(wanted, 1):
            self.assertIs(serial_step(run), True)
            self.assertEqual((run.moment, run.task, run.made, run.spawned), (moment, task, made, spawned))
            self.assertEqual([name for name, _ in run.behind], behind)
            if memory is not None:
                self.assertEqual(run.memory, memory)
            if 6 <= moment < 13:
                self.assertEqual(run.local[2], frame)
        self.assertEqual((run.ended, run.out), (("done",), [integer(4)]))
        self.assertIs(serial_step(run), False)
        self.assertEqual(run.moment, len(wanted))

    def test_run_serial(self):
        program = program_of("print 1; print 2;")
        steps = 6
        for limit in (0, 1, 3, steps - 1):
            run = run_serial(program, [], limit)
            self.assertEqual((run.moment, run.ended), (limit, None))
        for limit in (steps, steps + 1, 2000):
            run = run_serial(program, [], limit)
            self.assertEqual((run.moment, run.ended, run.out), (steps, ("done",), [integer(1), integer(2)]))
        for limit in range(steps + 3):
            run = Serial(program, [])
            for _ in range(limit):
                serial_step(run)
            self.assertEqual(self.fields(run_serial(program, [], limit)), self.fields(run))

    def test_run_serial_of_a_run_without_end(self):
        program = program_of(COUNTING)
        for limit in (0, 1, 1999, 2000):
            run = run_serial(program, [], limit)
            self.assertEqual((run.moment, run.ended), (limit, None))

    def test_inputs_are_copied(self):
        program = program_of("var a = read(); a = read(); a = read(); print a;")
        for inputs in ([integer(1), integer(2)], (integer(1), integer(2))):
            kept = list(inputs)
            run = Serial(program, inputs)
            self.assertIsInstance(run.left, list)
            self.assertEqual(run.left, kept)
            self.assertIsNot(run.left, inputs)
            while serial_step(run):
                pass
            self.assertEqual((run.left, list(inputs), run.out), ([], kept, [NONE]))
            self.assertEqual(run_serial(program, inputs, 100).left, [])
            self.assertEqual(list(inputs), kept)
        run = Serial(program, kept)
        kept.append(integer(3))
        self.assertEqual(run.left, [integer(1), integer(2)])

    def test_runs_share_nothing(self):
        program = program_of("var v = 1; ahead p(); print v; proc p() { v = 2; }")
        one = Serial(program, [TRUE])
        other = Serial(program, [TRUE])
        while serial_step(one):
            pass
        self.assertEqual(self.fields(other), self.fields(Serial(program, [TRUE])))

    def test_value_of(self):
        memory = {((), 0, 0): integer(1), ((1,), 4, 2): THING}
        self.assertEqual(value_of(memory, ((), 0, 0)), integer(1))
        self.assertEqual(value_of(memory, ((1,), 4, 2)), THING)
        for place in (((), 0, 1), ((), 1, 0), ((1,), 0, 0), ((1, 4), 4, 2)):
            self.assertEqual(value_of(memory, place), NONE)
        self.assertEqual(len(memory), 2)
        self.assertEqual(value_of({}, ((), 0, 0)), NONE)


if __name__ == "__main__":
    unittest.main()
