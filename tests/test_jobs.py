"""[s9] to [s11]: jobs, schedules, and the machines that make their steps."""

import random
import unittest

from foretask.back import taken_back
from foretask.jobs import jobs, schedule
from foretask.machine import Machine
from foretask.moments import begins, links, spawned_at
from foretask.trace import trace
from tests.plain import Plain
from tests.programs import WRITTEN, made, races
from tests.support import program_of
from tests.test_moments import EXAMPLE, MomentsCase, entries_of


class TestJobs(MomentsCase):
    def test_the_example(self):
        entries = entries_of(EXAMPLE)
        self.assertEqual(jobs(entries, 19), ((4, 19),))
        # The task (0,) has to spawn (0, 0) first, before its turn.
        self.assertEqual(jobs(entries, 27), ((4, 15), (4, 27)))
        for step in (0, 7, 20, 29):
            self.assertIsNone(jobs(entries, step))

    def test_links(self):
        text = "var v = 1; var u = 1; ahead p(); var w = v; var x = u; proc p() { u = 2; v = 2; u = 3; }"
        entries = entries_of(text)
        step = [at for at, entry in enumerate(entries) if entry[:3] == ("read", (0,), ((), 0, 1))][0]
        (moment, link), = links(entries, step)
        self.assertLess(moment, link)
        self.assertEqual(jobs(entries, step), ((moment, link), (taken_back(entries, step)[4], step)))

    def test_a_link_at_its_own_step_is_no_job(self):
        # The task (0,) prints, and spawns (0, 0), which reads too early.
        text = "var v = 1; ahead p(); print 0; ahead q(); var w = v; proc p() { } proc q() { v = 2; }"
        entries = entries_of(text)
        step = begins(entries, (0, 0))
        self.assertEqual([moment == link for moment, link in links(entries, step)], [True])
        moment = taken_back(entries, step)[4]
        self.assertEqual(moment, spawned_at(entries, (0, 0)) + 1)
        self.assertEqual(jobs(entries, step), ((moment, step),))

    def test_ancestors_that_begin_at_the_moment_or_before(self):
        text = "var v = 3; ahead p(); ahead q(); var w = v; proc p() { } proc q() { v = 2; v = 3; }"
        entries = entries_of(text)
        step = begins(entries, (0, 0))
        moment = taken_back(entries, step)[4]
        self.assertGreater(moment, begins(entries, (0,)))
        self.assertEqual(jobs(entries, step), ((moment, step),))
        # With another value at the beginning it is taken back before (0,) begins, which has to spawn it first.
        entries = entries_of(text.replace("v = 3; ahead", "v = 1; ahead"))
        moment = taken_back(entries, step)[4]
        self.assertEqual(moment, spawned_at(entries, (0,)) + 1)
        self.assertEqual(jobs(entries, step), ((moment, spawned_at(entries, (0, 0))), (moment, step)))

    def test_each_ancestor_has_its_job(self):
        text = "var v = 1; ahead p(); ahead p(); ahead p(); ahead p(); var w = v; proc p() { v = v + 1; }"
        entries = entries_of(text)
        task = (0, 0, 0, 0)
        step = begins(entries, task)
        first = spawned_at(entries, (0,)) + 1
        self.assertEqual(jobs(entries, step), (
            (first, spawned_at(entries, (0, 0))), (first, spawned_at(entries, (0, 0, 0))), (first, spawned_at(entries, task)),
            (first, step),
        ))

    def test_no_such_step(self):
        self.no_such_step(jobs, entries_of(EXAMPLE))
        self.no_such_step(jobs, ())


class TestSchedules(MomentsCase):
    def test_the_example(self):
        entries = entries_of(EXAMPLE)
        # The steps before the moment 4, those of (0,) up to 19, and the rest of the first task.
        self.assertEqual(schedule(entries, 19), ((),) * 4 + ((0,),) * 5 + ((),) * 11)
        self.assertEqual(schedule(entries, 27), ((),) * 4 + ((0,),) + ((0, 0),) + ((),) * 11 + ((0,),) * 11)
        self.assertEqual(len(schedule(entries, 27)), 28)
        for step in (0, 7, 20, 29):
            self.assertIsNone(schedule(entries, step))

    def test_the_machine_of_the_example(self):
        entries = entries_of(EXAMPLE)
        machine = Machine(program_of(EXAMPLE), [], tasks=32, steps=32)
        self.assertEqual(machine.step_all(schedule(entries, 19)), [("published", (0,), 4), ("back", (0,), 4)])
        machine = Machine(program_of(EXAMPLE), [], tasks=32, steps=32)
        self.assertEqual(machine.step_all(schedule(entries, 27)), [
            ("published", (0,), 1), ("published", (0, 0), 0), ("back", (0, 0), 0),
        ])

    def test_no_such_step(self):
        self.no_such_step(schedule, entries_of(EXAMPLE))
        self.no_such_step(schedule, ())

    def test_against_the_definitions(self):
        for text, inputs in WRITTEN[:4] + made(2, 2200) + races(20, 700):
            with self.subTest(text=text):
                entries = entries_of(text, inputs, 90)
                plain = Plain(entries)
                for step in range(len(entries)):
                    if entries[step][0] == "read":
                        self.assertEqual(jobs(entries, step), plain.jobs(step))
                        self.assertEqual(schedule(entries, step), plain.schedule(step))


class TestMachines(MomentsCase):
    """[s11]"""

    def test_each_schedule_takes_its_step_back(self):
        count = 0
        for text, inputs in WRITTEN + races(110, 1000):
            program = program_of(text)
            entries = trace(program, inputs, 160)
            for step in range(len(entries)):
                told = taken_back(entries, step)
                if told is None:
                    continue
                count += 1
                names = schedule(entries, step)
                for more in (2, 2 + step % 200):
                    window = len(entries) + more
                    machine = Machine(program, inputs, tasks=window, steps=window)
                    with self.subTest(text=text, step=step):
                        self.assertIn(("back",) + told[:2], machine.step_all(names))
        self.assertGreater(count, 150)

    def test_the_longest_trace(self):
        # The trace has 400 entries, the most that there are, so the window has 402.
        text = "var v = 0; proc p(n) { v = v + n; } while (true) { ahead p(1); }"
        program = program_of(text)
        entries = trace(program, (), 400)
        self.assertEqual(len(entries), 400)
        back = [step for step in range(400) if taken_back(entries, step) is not None]
        for step in (back[0], back[len(back) // 2], back[-1]):
            machine = Machine(program, (), tasks=402, steps=402)
            self.assertIn(("back",) + taken_back(entries, step)[:2], machine.step_all(schedule(entries, step)))

    def test_nothing_else_is_ever_taken_back(self):
        seen = 0
        for number, (text, inputs) in enumerate(WRITTEN[:20] + races(120, 2000)):
            program = program_of(text)
            entries = trace(program, inputs, 400)
            steps = {}
            for step, entry in enumerate(entries):
                steps[(entry[1], step - begins(entries, entry[1]))] = step
            chance = random.Random(number)
            for tasks, most in ((500, 500), (4, 30)):
                for name, at in self.backs(Machine(program, inputs, tasks=tasks, steps=most), chance):
                    if (name, at) in steps:
                        seen += 1
                        told = taken_back(entries, steps[(name, at)])
                        with self.subTest(text=text, name=name, at=at):
                            self.assertIsNotNone(told)
                            self.assertEqual(told[:2], (name, at))
        self.assertGreater(seen, 150)

    def backs(self, machine, chance):
        """Makes steps and losses by chance, and returns what was taken back."""
        events = []
        for _ in range(150):
            order = machine.order()
            task = chance.choice(order[:6]) if chance.randrange(4) else machine.task
            if chance.randrange(15) == 0:
                events += machine.lose(task, chance.choice((None, 0, 1, 2)))
            for _ in range(chance.randrange(1, 12)):
                events += machine.step_task(task)
        return [event[1:] for event in events if event[0] == "back"]


if __name__ == "__main__":
    unittest.main()
