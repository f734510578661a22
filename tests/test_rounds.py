"""[f6] and [f7]: rounds."""

import unittest

from foretask.machine import Machine
from foretask.rounds import rounds
from foretask.serial import Serial, serial_step
from tests.programs import WRITTEN, made, races
from tests.support import Case, integer, program_of
from tests.test_moments import EXAMPLE


def by_step_task(program, inputs, tasks, steps, most):
    """Makes rounds as the document says: each name of the order gets one step_task."""
    machine = Machine(program, inputs, tasks=tasks, steps=steps)
    count = 0
    while count < most and machine.ended is None:
        for name in machine.order():
            machine.step_task(name)
        count += 1
    return (count, machine.ended, machine.moment, machine.work, machine.vain), machine


class TestRounds(Case):
    def test_the_example(self):
        program = program_of(EXAMPLE)
        self.assertEqual(rounds(program, [], tasks=4, steps=100, most=400), (24, ("done",), 30, 37, 7))
        # Without steps before their turn each round is one step, and one more where the next task becomes first.
        for tasks, steps in ((1, 0), (1, 500), (500, 0)):
            self.assertEqual(rounds(program, [], tasks=tasks, steps=steps, most=400), (28, ("done",), 30, 30, 0))

    def test_most(self):
        program = program_of(EXAMPLE)
        self.assertEqual(rounds(program, [], tasks=4, steps=100, most=0), (0, None, 0, 0, 0))
        self.assertEqual(rounds(program, [], tasks=4, steps=100, most=1), (1, None, 1, 1, 0))
        # In the round 4 the task (0,) comes, which gets its first step in round 5.
        self.assertEqual(rounds(program, [], tasks=4, steps=100, most=4), (4, None, 4, 4, 0))
        self.assertEqual(rounds(program, [], tasks=4, steps=100, most=5), (5, None, 5, 6, 0))
        self.assertEqual(rounds(program, [], tasks=4, steps=100, most=23)[:2], (23, None))
        for most in (24, 25, 399, 400):
            self.assertEqual(rounds(program, [], tasks=4, steps=100, most=most)[:2], (24, ("done",)))

    def test_a_run_without_end(self):
        program = program_of("while (true) { }")
        for most in (1, 399, 400):
            self.assertEqual(rounds(program, (), tasks=500, steps=500, most=most), (most, None, most, most, 0))

    def test_a_run_that_fails(self):
        self.assertEqual(rounds(program_of("throw 3;"), (), tasks=2, steps=2, most=10), (3, ("failed", integer(3)), 3, 3, 0))

    def test_names_of_the_order_at_the_beginning_of_the_round(self):
        # In one round the task () stops, and (0,) becomes first and makes its step in the same round.
        program = program_of("ahead p(); proc p() { }")
        serial = Serial(program, ())
        while serial.task == ():
            serial_step(serial)
        found = rounds(program, (), tasks=1, steps=0, most=serial.moment)
        self.assertEqual(found[:3], (serial.moment, ("done",), serial.moment + 1))

    def test_against_step_task(self):
        for text, inputs in WRITTEN + made(30, 2500) + races(40, 1300):
            program = program_of(text)
            for tasks, steps, most in ((1, 0, 60), (2, 500, 50), (3, 4, 70), (500, 500, 60)):
                with self.subTest(text=text, tasks=tasks, steps=steps):
                    wanted, _ = by_step_task(program, inputs, tasks, steps, most)
                    self.assertEqual(rounds(program, inputs, tasks=tasks, steps=steps, most=most), wanted)

    def test_tasks_beyond_the_window(self):
        # Many more tasks than the window has, some of which are dropped and spawned again.
        text = "proc p() { ahead p(); ahead p(); n = n + 1; if (n > 2) { throw 1; } } var n = 0; while (true) {"
        text += " try { ahead p(); } catch (e) { n = 0; } }"
        program = program_of(text)
        for tasks in (2, 3, 7, 30):
            wanted, machine = by_step_task(program, (), tasks, 500, 60)
            self.assertGreater(len(machine), tasks)
            self.assertEqual(rounds(program, (), tasks=tasks, steps=500, most=60), wanted)

    def test_many_tasks(self):
        # The order grows to thousands of tasks, of which 500 may step.
        text = "proc p() { try { while (true) { ahead p(); } } catch (e) { } } while (true) { ahead p(); }"
        count, ended, moment, work, vain = rounds(program_of(text), (), tasks=500, steps=500, most=120)
        self.assertEqual((count, ended), (120, None))
        self.assertGreater(work, 10000)

    def test_what_holds(self):
        """[f7]: as many rounds as the sequential run has steps are enough, and end alike."""
        for text, inputs in WRITTEN + races(40, 1400):
            program = program_of(text)
            run = Serial(program, inputs)
            while run.moment < 400 and serial_step(run):
                pass
            if run.ended is None:
                continue
            for tasks, steps in ((1, 0), (3, 20), (500, 500)):
                with self.subTest(text=text, tasks=tasks):
                    count, ended, moment, work, vain = rounds(program, inputs, tasks=tasks, steps=steps, most=400)
                    self.assertLessEqual(count, run.moment)
                    self.assertEqual((ended, moment), (run.ended, run.moment))
                    self.assertGreaterEqual(work, moment + vain)
                    _, machine = by_step_task(program, inputs, tasks, steps, run.moment)
                    self.assertEqual((machine.ended, machine.out), (run.ended, run.out))

    def test_inputs_are_not_changed(self):
        inputs = [integer(1), integer(2)]
        self.assertEqual(rounds(program_of("var v = read(); print v;"), inputs, tasks=3, steps=3, most=9)[1], ("done",))
        self.assertEqual(inputs, [integer(1), integer(2)])


if __name__ == "__main__":
    unittest.main()
