"""[h10], and the events of [h9]: machines under many orders of steps and losses, against the sequential run."""

import copy
import random
import unittest

from foretask.machine import Machine
from foretask.serial import Serial, next_action, serial_step, value_of
from tests.programs import WRITTEN, made
from tests.support import Case, program_of, state_of

WINDOWS = ((1, 0), (2, 3), (3, 500), (5, 20), (500, 6), (500, 500))
# Runs that have not ended after so many steps are taken to be without end.
MANY = 3000


class Watch:
    """A machine beside a sequential run that is kept at the same moment."""

    def __init__(self, case, program, inputs, tasks, steps):
        self.case = case
        self.machine = Machine(program, inputs, tasks=tasks, steps=steps)
        self.run = Serial(program, inputs)
        self.firsts = 0
        self.met = {}

    def step(self, task):
        """Makes a step of a task, and checks all that [h10] says."""
        machine = self.machine
        if task != machine.task or machine.ended is not None:
            before = self.seen()
            self.case.assertEqual(machine.step_task(task), [])
            self.check_behind(before, task)
        else:
            self.first(task)
        self.check()

    def lose(self, task, at):
        before = self.seen()
        row = [row for row in self.machine.behind if row[0] == task]
        events = self.machine.lose(task, at)
        if not row or self.machine.ended is not None:
            self.case.assertEqual((events, self.seen()), ([], before))
            return
        name, begin, run, readings = row[0]
        left = (begin, (), 0, 0, 0) if at is None else run if at >= len(readings) else readings[at][2]
        dropped = self.dropped(before[1], name, left[3])
        self.case.assertEqual(events, [("lost", name, left[4])] + [("dropped", other) for other in dropped])
        self.met["lost"] = True
        for event in events:
            self.met["lose " + event[0]] = True
        self.check()

    def seen(self):
        machine = self.machine
        return (machine.moment, machine.order(), machine.work, machine.vain, machine.ended,
                {row[0]: row for row in machine.behind})

    def dropped(self, order, task, spawned):
        """Returns the tasks of an order that come from what a task spawned as this number, or later."""
        many = len(task)
        return [name for name in order if len(name) > many and name[:many] == task and name[many] >= spawned]

    def check_behind(self, before, task):
        """A step of a task behind the first one, or none."""
        moment, order, work, vain, ended, rows = before
        after = self.seen()
        self.case.assertEqual((after[0], after[3], after[4]), (moment, vain, ended))
        made_step = after[2] - work
        self.case.assertIn(made_step, (0, 1))
        if made_step:
            self.met["early"] = True
            place = order.index(task)
            self.case.assertLess(place, self.machine.tasks)
            self.case.assertLess(rows[task][2][4], self.machine.steps)
            self.case.assertEqual(after[5][task][2][4], rows[task][2][4] + 1)
        else:
            self.case.assertEqual(after, before)

    def first(self, task):
        """A step of the first task: it is one of the sequential run, and then comes what is published."""
        machine = self.machine
        before = self.seen()
        told = next_action(self.run)
        events = machine.step_task(task)
        self.firsts += 1
        serial_step(self.run)
        wanted = []
        published = 0
        if told[0] == "stop" and machine.ended is None:
            wanted, published = self.handing_on(before)
        elif told[0] == "give_up":
            gone = [name for name in before[1] if name not in machine.order()]
            self.case.assertTrue(gone)
            wanted = [("dropped", name) for name in gone]
        self.case.assertEqual(events, wanted)
        self.case.assertEqual((machine.moment, machine.work), (before[0] + 1 + published, before[2] + 1))
        for event in events:
            self.met[told[0] + " " + event[0]] = True

    def handing_on(self, before):
        """Follows the task that has become first through the sequential run; returns the events that must have been
        told, and how many steps were published."""
        task = before[1][1]
        self.case.assertEqual((self.run.task, self.machine.task), (task, task))
        _, _, run, readings = before[5][task]
        kept = run
        probe = copy_of(self.run)
        made = 0
        for place, value, earlier in readings:
            while made < earlier[4]:
                serial_step(probe)
                made += 1
            if next_action(probe)[1] != place:
                raise AssertionError("the run is another one before its first wrong reading")
            if value_of(probe.memory, place) != value:
                kept = earlier
                break
        events = [("published", task, kept[4])]
        if kept is not run:
            events.append(("back", task, kept[4]))
            events += [("dropped", name) for name in self.dropped(before[1], task, kept[3])]
        for _ in range(kept[4]):
            serial_step(self.run)
        return events, kept[4]

    def check(self):
        machine, run = self.machine, self.run
        self.case.assertEqual(machine.moment, run.moment)
        self.case.assertEqual(state_of(machine), state_of(run))
        names = [row[0] for row in machine.behind]
        roots = [row for row in machine.behind if not any(comes_from_another(row[0], other) for other in names)]
        self.case.assertEqual([row[:2] for row in roots], run.behind)
        order = machine.order()
        self.case.assertEqual(order, (machine.task,) + tuple(names))
        self.case.assertEqual(len({name: True for name in order}), len(order))
        self.case.assertEqual(machine.work, machine.moment + machine.vain + sum(row[2][4] for row in machine.behind))

    def finish(self, limit):
        """The first task alone ends the run, within as many steps as the sequential run has."""
        whole = Serial(self.machine.program, self.inputs())
        while whole.moment < limit and serial_step(whole):
            pass
        if whole.ended is None:
            return
        self.machine.step_first(max(0, whole.moment - self.firsts))
        self.case.assertEqual(state_of(self.machine), state_of(whole))
        self.case.assertEqual(self.machine.moment, whole.moment)

    def inputs(self):
        return self.start

    start = ()


def copy_of(run):
    other = copy.copy(run)
    other.memory = dict(run.memory)
    other.out = list(run.out)
    other.left = list(run.left)
    other.behind = list(run.behind)
    return other


def comes_from_another(name, other):
    return len(other) < len(name) and name[:len(other)] == other


class ScheduleCase(Case):
    met = {}

    def watch(self, text, inputs, window):
        watch = Watch(self, program_of(text), inputs, *window)
        watch.start = inputs
        return watch

    def chances(self, watch, chance, count, losses):
        """Steps and losses by chance: now of one task for a while, now of any."""
        machine = watch.machine
        for _ in range(count):
            if machine.ended is not None:
                break
            order = machine.order()
            task = chance.choice(order[:6]) if chance.randrange(3) else machine.task
            if losses and chance.randrange(12) == 0:
                watch.lose(task, chance.choice((None, 0, 0, 1, 2, 5)))
                continue
            for _ in range(chance.randrange(1, 9)):
                watch.step(task)

    def all_behind_first(self, watch, count):
        """The last tasks of the order come first."""
        machine = watch.machine
        for _ in range(count):
            if machine.ended is not None:
                break
            for task in reversed(machine.order()):
                watch.step(task)

    def rounds(self, watch, count):
        machine = watch.machine
        for _ in range(count):
            if machine.ended is not None:
                break
            for task in machine.order():
                watch.step(task)


class TestSchedules(ScheduleCase):
    def check_all(self, programs, orders):
        met = {}
        for number, (text, inputs) in enumerate(programs):
            for window in WINDOWS:
                for order in orders:
                    with self.subTest(text=text, window=window, order=order.__name__):
                        watch = self.watch(text, inputs, window)
                        order(watch, random.Random(number))
                        watch.finish(MANY)
                        met.update(watch.met)
        return met

    def mixed(self, watch, chance):
        self.chances(watch, chance, 120, False)

    def mixed_with_losses(self, watch, chance):
        self.chances(watch, chance, 120, True)

    def last_first(self, watch, chance):
        self.all_behind_first(watch, 25)

    def in_order(self, watch, chance):
        self.rounds(watch, 25)

    def first_alone(self, watch, chance):
        for _ in range(300):
            if watch.machine.ended is None:
                watch.step(watch.machine.task)

    def test_written_programs(self):
        met = self.check_all(WRITTEN, (self.mixed, self.mixed_with_losses, self.last_first, self.in_order, self.first_alone))
        # All that may happen has happened.
        for event in ("early", "lost", "stop published", "stop back", "stop dropped", "give_up dropped", "lose lost",
                      "lose dropped"):
            self.assertIn(event, met)

    def test_made_programs(self):
        spawning = [(text, inputs) for text, inputs in made(130, 1000) if text.count("ahead") > 1]
        self.assertGreater(len(spawning), 60)
        met = self.check_all(spawning[:45], (self.mixed_with_losses, self.last_first))
        for event in ("early", "stop back", "stop dropped", "give_up dropped", "lose dropped"):
            self.assertIn(event, met)

    def test_the_first_task_alone(self):
        for text, inputs in made(40, 2000):
            with self.subTest(text=text):
                watch = self.watch(text, inputs, (500, 500))
                for _ in range(400):
                    if watch.machine.ended is None:
                        watch.step(watch.machine.task)
                self.assertEqual(watch.machine.vain, 0)
                self.assertEqual(watch.machine.work, watch.machine.moment)
                watch.finish(MANY)


if __name__ == "__main__":
    unittest.main()
