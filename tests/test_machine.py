"""[h1] to [h9], [c13] to [c15]: machines step by step. The tasks of [h10] are those of test_schedules."""

import unittest

from foretask.machine import Machine
from foretask.parsing import parse
from foretask.program import compile_tree
from foretask.serial import Serial, serial_step
from foretask.steps import action, beginning
from tests.support import NONE, TRUE, Case, integer, program_of, state_of, text_value

FIELDS = ("tasks", "steps", "memory", "out", "left", "task", "local", "made", "spawned", "ended", "behind", "moment", "work",
          "vain")


class MachineCase(Case):
    def machine(self, text, inputs=(), tasks=500, steps=500):
        return Machine(program_of(text), inputs, tasks=tasks, steps=steps)

    def fields(self, machine):
        found = {name: getattr(machine, name) for name in FIELDS}
        for name in ("memory", "out", "left", "behind"):
            found[name] = found[name].copy()
        return found

    def nothing(self, machine, function, *arguments):
        """The call changes nothing and returns no event."""
        before = self.fields(machine)
        self.assertEqual(function(*arguments), [])
        self.assertEqual(self.fields(machine), before)

    def exhaust(self, machine, *tasks):
        """Makes all steps that these tasks can make, one task after the other."""
        for task in tasks:
            while True:
                work = machine.work
                self.assertEqual(machine.step_task(task), [])
                if machine.work == work:
                    break

    def first_until(self, machine, task):
        """Makes steps of the first task until this one is first, and returns the events of the last step."""
        events = []
        while machine.task != task and machine.ended is None:
            self.assertEqual(events, [])
            events = machine.step_first(1)
        self.assertEqual(machine.task, task)
        return events

    def spawn(self, machine, count=1):
        """Makes steps of the first task until it has spawned this many tasks."""
        while machine.spawned < count:
            self.assertEqual(machine.step_first(1), [])

    def steps_of(self, machine, task):
        return [row[1] for row in machine.look()[5] if row[0] == task][0]

    def accounts(self, machine):
        """[h10]: work is the sum of moment, vain and the steps of the tasks behind."""
        moment, work, vain, _, _, tasks = machine.look()
        self.assertEqual(work, moment + vain + sum(row[1] for row in tasks))


class TestExample(unittest.TestCase):
    def test_the_example_of_the_document(self):
        text = "var total = 0;\nproc add(n) { total = total + n; }\nahead add(1);\nahead add(2);\nprint total;\n"
        machine = Machine(compile_tree(parse(text)), [], tasks=4, steps=100)
        self.assertEqual(machine.step_first(4), [])
        self.assertEqual(machine.step_all([(0,), (0,), (0,), (0,), (0,)]), [])
        self.assertEqual(machine.readings_of((0,)), ((((), 0, 0), ("int", 0), 4),))
        self.assertEqual(machine.step_first(11), [("published", (0,), 4), ("back", (0,), 4)])
        self.assertEqual(machine.look()[:4], (19, 20, 1, None))
        self.assertEqual(machine.step_first(100), [("published", (0, 0), 0)])
        self.assertEqual(machine.look()[:5], (30, 31, 1, ("done",), (("int", 3),)))


class TestBeginning(MachineCase):
    def test_fields(self):
        program = program_of("print 1;")
        machine = Machine(program, [TRUE], tasks=7, steps=30)
        self.assertIs(machine.program, program)
        self.assertEqual(self.fields(machine), {
            "tasks": 7, "steps": 30, "memory": {}, "out": [], "left": [TRUE], "task": (), "local": beginning(), "made": 0,
            "spawned": 0, "ended": None, "behind": [], "moment": 0, "work": 0, "vain": 0,
        })
        self.assertEqual(state_of(machine), state_of(Serial(program, [TRUE])))
        self.assertEqual(machine.look(), (0, 0, 0, None, (), (((), 0, 0, False),)))
        self.assertEqual((machine.order(), len(machine)), (((),), 1))

    def test_inputs_are_copied(self):
        for inputs in ([integer(1), integer(2)], (integer(1), integer(2))):
            kept = list(inputs)
            machine = self.machine("var x = read(); print x;", inputs)
            self.assertEqual(machine.left, kept)
            self.assertIsNot(machine.left, inputs)
            machine.step_first(100)
            self.assertEqual((machine.left, machine.out, list(inputs)), (kept[1:], kept[:1], kept))
        machine = self.machine("print 1;", kept)
        kept.append(NONE)
        self.assertEqual(machine.left, [integer(1), integer(2)])

    def test_two_machines_share_nothing(self):
        text = "var v = read(); ahead p(v); print v; proc p(n) { v = n; print v; }"
        program = program_of(text)
        inputs = [integer(1), integer(2)]
        one = Machine(program, inputs, tasks=5, steps=50)
        other = Machine(program, inputs, tasks=5, steps=50)
        new = self.fields(other)
        one.step_first(6)
        self.exhaust(one, (0,))
        self.assertEqual(self.fields(other), new)
        other.step_first(1000)
        self.assertEqual(one.ended, None)
        self.assertEqual(one.out, [])
        one.step_first(1000)
        self.assertEqual(one.out, other.out)

    def test_the_first_task_makes_the_steps_of_the_sequential_run(self):
        text = ("record r(a); var v = read(); proc p(n) { v = n; print v; if (n == 2) { throw n; } } try { ahead p(1); ahead p(2);"
                " } catch (e) { print e; v = none; } ahead for (i = 1 to 3) { var o = new r(); o.a = i; if (i == 2) { break; } }"
                " print o.a; v = read(); p(v);")
        for inputs in ([], [integer(4)], [integer(4), integer(2), integer(3)]):
            machine = self.machine(text, inputs, tasks=1, steps=0)
            run = Serial(machine.program, inputs)
            while run.ended is None:
                serial_step(run)
                machine.step_first(1)
                self.assertEqual(state_of(machine), state_of(run))
                self.assertEqual([(row[0], row[1]) for row in machine.behind], run.behind)
                self.assertEqual((machine.moment, machine.work, machine.vain), (run.moment, run.moment, 0))


class TestWindow(MachineCase):
    TEXT = "var v = 0; ahead p(1); ahead p(2); ahead p(3); print v; proc p(n) { v = n; }"

    def ready(self, tasks, steps):
        """Returns a machine with the tasks (), (0,) and (0, 0)."""
        machine = self.machine(self.TEXT, tasks=500, steps=500)
        self.spawn(machine)
        self.assertEqual(machine.step_task((0,)), [])
        self.assertEqual(machine.order(), ((), (0,), (0, 0)))
        wanted = self.machine(self.TEXT, tasks=tasks, steps=steps)
        for name in FIELDS[2:]:
            setattr(wanted, name, getattr(machine, name))
        return wanted

    def steps(self, machine, task):
        work = machine.work
        self.assertEqual(machine.step_task(task), [])
        return machine.work - work

    def test_tasks(self):
        for tasks, first, second in ((1, 0, 0), (2, 1, 0), (3, 1, 1), (4, 1, 1), (500, 1, 1)):
            with self.subTest(tasks=tasks):
                machine = self.ready(tasks, 500)
                if not second:
                    self.nothing(machine, machine.step_task, (0, 0))
                self.assertEqual(self.steps(machine, (0, 0)), second)
                if not first:
                    self.nothing(machine, machine.step_task, (0,))
                self.assertEqual(self.steps(machine, (0,)), first)

    def test_a_place_in_the_order_may_change(self):
        machine = self.machine(self.TEXT, tasks=2, steps=500)
        self.spawn(machine)
        self.exhaust(machine, (0,))
        self.nothing(machine, machine.step_task, (0, 0))
        self.first_until(machine, (0,))
        self.assertEqual(self.steps(machine, (0, 0)), 1)

    def test_steps(self):
        for steps in (1, 2, 5):
            machine = self.machine(self.TEXT, tasks=500, steps=steps)
            self.spawn(machine)
            for number in range(1, steps + 1):
                self.assertEqual(self.steps(machine, (0,)), 1)
                self.assertEqual(self.steps_of(machine, (0,)), number)
            self.nothing(machine, machine.step_task, (0,))
            self.assertIs(machine.look()[5][1][3], False)

    def test_no_steps(self):
        machine = self.machine(self.TEXT, tasks=500, steps=0)
        self.spawn(machine)
        self.nothing(machine, machine.step_task, (0,))

    def test_a_lost_run_may_step_again(self):
        machine = self.machine(self.TEXT, tasks=500, steps=2)
        self.spawn(machine)
        self.exhaust(machine, (0,))
        machine.lose((0,))
        self.assertEqual(self.steps(machine, (0,)), 1)

    def test_the_first_task_is_not_limited(self):
        for tasks, steps in ((1, 0), (1, 500), (500, 0), (2, 1)):
            machine = self.machine(self.TEXT, tasks=tasks, steps=steps)
            for _ in range(500):
                machine.step_task(machine.task)
            self.assertEqual((machine.ended, machine.out), (("done",), [integer(3)]))


class TestWaiting(MachineCase):
    def waiting(self, text, kind):
        """The task (0,) makes steps until it waits with an action of this kind."""
        machine = self.machine(text, [integer(1)])
        self.spawn(machine)
        self.exhaust(machine, (0,))
        name, _, run, _ = machine.behind[0]
        self.assertEqual((name, action(machine.program, run[0])[0]), ((0,), kind))
        self.nothing(machine, machine.step_task, (0,))
        self.nothing(machine, machine.step_all, [(0,), (0,)])
        self.assertIs(machine.look()[5][1][3], True)
        return machine

    def test_each_kind(self):
        for text, kind in (
            ("ahead p(); print 1; proc p() { }", "output"),
            ("ahead p(); var x = read(); proc p() { }", "input"),
            ("try { ahead p(); ahead q(); } catch (e) { } proc p() { } proc q() { throw 1; }", "give_up"),
            ("ahead for (i = 1 to 2) { ahead p(); break; } proc p() { }", "stop"),
            ("while (true) { ahead p(); ahead for (i = 1 to 2) { break; } } proc p() { }", "give_up"),
            ("proc p() { } proc q() { ahead p(); ahead for (i = 1 to 2) { return 1; } } q();", "give_up"),
            ("ahead p(); ahead p(); proc p() { }", "stop"),
            ("ahead p(); proc p() { }", "stop"),
            ("ahead p(); throw 1; proc p() { }", "fail"),
            ("ahead p(); var x = 1 / 0; proc p() { }", "fail"),
        ):
            with self.subTest(text=text):
                self.waiting(text, kind)

    def test_waiting_at_the_beginning(self):
        machine = self.machine("ahead p(); proc p() { }")
        self.spawn(machine)
        self.assertEqual(machine.look()[5], (((), 0, 0, False), ((0,), 0, 0, True)))
        self.nothing(machine, machine.step_task, (0,))

    def test_the_first_task_does_not_wait(self):
        machine = self.machine("print 1; var x = read(); throw x;", [integer(2)])
        machine.step_first(2)
        self.assertEqual(machine.look()[5], (((), 0, 0, False),))
        machine.step_first(100)
        self.assertEqual((machine.out, machine.ended), ([integer(1)], ("failed", integer(2))))


class TestStepsBehind(MachineCase):
    def test_a_task_that_is_spawned(self):
        machine = self.machine("var v = 1; ahead p(); v = 2; ahead p(); v = 3; proc p() { ahead q(); v = 4; } proc q() { }")
        self.spawn(machine)
        name, begin, run, readings = machine.behind[0]
        self.assertEqual((name, run, readings), ((0,), (begin, (), 0, 0, 0), ()))
        self.assertEqual(begin[4], ())
        self.exhaust(machine, (0,))
        # The task (0,) spawns what follows its call of p, and then what follows the call of q within p.
        self.assertEqual(machine.order(), ((), (0,), (0, 1), (0, 0)))
        self.assertEqual(machine.behind[0][2][3], 2)
        for name, begin, run, readings in machine.behind[1:]:
            self.assertEqual((run, readings), ((begin, (), 0, 0, 0), ()))
        self.spawn(machine, 2)
        # The new task stands directly behind the first one.
        self.assertEqual(machine.order(), ((), (1,), (0,), (0, 1), (0, 0)))
        self.accounts(machine)

    def test_it_stands_directly_behind_the_task_that_spawns_it(self):
        machine = self.machine("proc p() { } proc q() { ahead p(); } ahead q(); ahead q(); ahead q(); ahead q();")
        self.spawn(machine)
        machine.step_task((0,))
        self.assertEqual(machine.order(), ((), (0,), (0, 0)))
        machine.step_task((0, 0))
        self.assertEqual(machine.order(), ((), (0,), (0, 0), (0, 0, 0)))
        self.exhaust(machine, (0,))
        self.assertEqual(machine.order(), ((), (0,), (0, 1), (0, 0), (0, 0, 0)))
        self.exhaust(machine, (0, 0, 0), (0, 0))
        self.assertEqual(machine.order(), ((), (0,), (0, 1), (0, 0), (0, 0, 1), (0, 0, 0), (0, 0, 0, 1), (0, 0, 0, 0)))
        self.assertEqual(len(machine), 8)

    def test_the_memory_is_not_changed(self):
        machine = self.machine("var v = 1; var w = 2; ahead p(); v = 5; w = none; var o = array(v); proc p() { }")
        self.spawn(machine)
        memory = machine.memory.copy()
        self.exhaust(machine, (0,))
        self.assertEqual(machine.memory, memory)
        self.assertEqual((machine.out, machine.made, machine.spawned), ([], 1, 1))
        # The third write of the task is that of the number of items; then the array is stored in o.
        thing = ("object", (0,), 0)
        self.assertEqual(machine.behind[0][2][1],
                         ((((), 0, 2), thing), (((0,), 0, 0), integer(5)), (((), 0, 1), NONE), (((), 0, 0), integer(5))))
        self.assertEqual(machine.behind[0][2][2], 1)

    def test_readings(self):
        text = "var v = 1; var w = 2; ahead p(); var x = v; v = w; x = v; x = u; x = w; var u = none; proc p() { w = 9; }"
        machine = self.machine(text)
        self.spawn(machine)
        begin = machine.behind[0][1]
        self.exhaust(machine, (0,))
        # v is written before it is read again; the place of u was never written.
        v, w, u = ((), 0, 0), ((), 0, 1), ((), 0, 3)
        self.assertEqual(machine.readings_of((0,)), ((v, integer(1), 0), (w, integer(2), 2), (u, NONE, 6), (w, integer(2), 8)))
        readings = machine.behind[0][3]
        self.assertEqual([(place, value, run[4]) for place, value, run in readings], list(machine.readings_of((0,))))
        self.assertEqual(readings[0][2], (begin, (), 0, 0, 0))
        self.assertEqual(readings[1][2][1], ((((), 0, 2), integer(1)),))
        # Behind a change of the memory another value is read.
        self.first_until_written(machine, w, integer(9))
        machine.lose((0,), 3)
        self.exhaust(machine, (0,))
        self.assertEqual(machine.readings_of((0,)), ((v, integer(1), 0), (w, integer(2), 2), (u, NONE, 6), (w, integer(9), 8)))

    def first_until_written(self, machine, place, value):
        while machine.value_at(place) != value:
            self.assertEqual(machine.step_first(1), [])


class TestGivingUp(MachineCase):
    def test_with_tasks_that_come_from_others(self):
        text = ("proc a() { ahead b(); } proc b() { throw 1; } proc c() { } try { ahead a(); ahead c(); ahead c(); } catch (e) {"
                " print e; } ahead c(); print 2;")
        machine = self.machine(text)
        self.spawn(machine, 2)
        self.assertEqual(machine.order(), ((), (1,), (0,)))
        self.exhaust(machine, (0,), (0, 0), (1,))
        self.assertEqual(machine.order(), ((), (1,), (0,), (0, 0), (0, 0, 0)))
        steps = {row[0]: row[1] for row in machine.look()[5]}
        self.assertGreater(min(steps[(0,)], steps[(0, 0)], steps[(1,)]), 0)
        events = []
        while not events:
            before = machine.look()
            events = machine.step_first(1)
        # Both cuts of () are passed.
        self.assertEqual(events, [("dropped", (1,)), ("dropped", (0,)), ("dropped", (0, 0)), ("dropped", (0, 0, 0))])
        self.assertEqual(machine.look()[:3], (before[0] + 1, before[1] + 1, sum(steps.values())))
        self.assertEqual(machine.order(), ((),))
        self.accounts(machine)
        self.assertEqual(machine.step_first(1000), [("published", (2,), 0)])
        self.assertEqual((machine.out, machine.ended), ([integer(1), integer(2)], ("done",)))

    def test_the_others_stay(self):
        text = ("proc a() { try { ahead b(); ahead c(); } catch (e) { } } proc b() { throw 1; } proc c() { } ahead a(); ahead c();"
                " ahead c();")
        machine = self.machine(text)
        self.spawn(machine, 2)
        self.exhaust(machine, (0,), (0, 0), (1,))
        self.assertEqual(machine.order(), ((), (1,), (1, 0), (0,), (0, 0), (0, 0, 0)))
        behind = machine.behind[2:]
        events = []
        while not events:
            events = machine.step_first(1)
        self.assertEqual(events, [("dropped", (1,)), ("dropped", (1, 0))])
        self.assertEqual((machine.behind, machine.order()), (behind, ((), (0,), (0, 0), (0, 0, 0))))
        self.accounts(machine)

    def prepared(self, cuts, behind):
        """Returns a machine whose first task is about to give up as many tasks as there are cuts, with these behind."""
        machine = self.machine("try { throw 5; } catch (e) { print e; }")
        machine.step_first(3)
        local = machine.local
        self.assertEqual(machine.program.code[local[0]], ("throw",))
        machine.local = local[:4] + ((("cut",),) * cuts + local[4],)
        machine.behind = [(name, beginning(), (beginning(), (), 0, 0, steps), ()) for name, steps in behind]
        machine.work += sum(steps for _, steps in behind)
        return machine

    def test_fewer_tasks_than_n(self):
        behind = [((1,), 3), ((1, 0), 4), ((0,), 5)]
        for cuts, left in ((1, 1), (2, 0), (3, 0), (9, 0)):
            machine = self.prepared(cuts, behind)
            events = machine.step_first(1)
            dropped = behind[:len(behind) - left]
            self.assertEqual(events, [("dropped", name) for name, _ in dropped])
            self.assertEqual(machine.order(), ((),) + tuple(name for name, _ in behind[len(behind) - left:]))
            self.assertEqual(machine.vain, sum(steps for _, steps in dropped))
            self.accounts(machine)

    def test_no_tasks(self):
        for cuts in (1, 2):
            machine = self.prepared(cuts, [])
            self.assertEqual(machine.step_first(1), [])
            self.assertEqual((machine.order(), machine.vain, machine.moment, machine.work), (((),), 0, 4, 4))
            machine.step_first(100)
            self.assertEqual(machine.out, [integer(5)])

    def test_a_name_that_begins_alike_does_not_come_from_it(self):
        machine = self.prepared(1, [((1,), 3), ((1, 0), 1), ((11,), 4), ((0, 1), 2), ((0,), 0)])
        self.assertEqual(machine.step_first(1), [("dropped", (1,)), ("dropped", (1, 0))])
        self.assertEqual(machine.order(), ((), (11,), (0, 1), (0,)))


class TestEnds(MachineCase):
    def test_stop_without_tasks_behind(self):
        machine = self.machine("var v = 1; print v;")
        machine.step_first(5)
        local = machine.local
        self.assertEqual(machine.step_first(1), [])
        self.assertEqual((machine.ended, machine.task, machine.local, machine.made, machine.spawned), (("done",), (), local, 1, 0))
        self.assertEqual(machine.look(), (6, 6, 0, ("done",), (integer(1),), (((), 0, 0, False),)))
        self.at_the_end(machine)

    def test_stop_with_tasks_behind(self):
        machine = self.machine("ahead p(); ahead p(); print 1; proc p() { }")
        events = self.first_until(machine, (0,))
        self.assertEqual(events, [("published", (0,), 0)])
        self.assertEqual((machine.ended, machine.made, machine.spawned, machine.order()), (None, 0, 0, ((0,),)))
        self.assertEqual(self.first_until(machine, (0, 0)), [("published", (0, 0), 0)])
        machine.step_first(1000)
        self.assertEqual((machine.ended, machine.task), (("done",), (0, 0)))
        self.at_the_end(machine)

    def test_fail_with_tasks_behind(self):
        machine = self.machine("ahead p(); ahead p(); print 1; proc p() { throw 3; }")
        self.spawn(machine)
        self.exhaust(machine, (0,), (0, 0))
        behind = list(machine.behind)
        self.assertEqual([row[0] for row in behind], [(0,), (0, 0)])
        vain = machine.vain
        self.assertEqual(machine.step_first(1000), [])
        self.assertEqual((machine.ended, machine.task, machine.behind, machine.vain), (("failed", integer(3)), (), behind, vain))
        self.assertEqual(machine.order(), ((), (0,), (0, 0)))
        self.accounts(machine)
        self.at_the_end(machine)

    def at_the_end(self, machine):
        for task in machine.order() + ((5,),):
            self.nothing(machine, machine.step_task, task)
            self.nothing(machine, machine.lose, task)
            self.nothing(machine, machine.lose, task, 0)
        self.nothing(machine, machine.step_first, 3)
        self.nothing(machine, machine.step_first, 10 ** 12)
        self.nothing(machine, machine.step_all, machine.order())


class TestTurns(MachineCase):
    """[h6]: what happens when a task becomes first."""

    HEAD = "var a = 1; var b = 2; proc p(n) { a = n; } proc back() { a = 7; a = 1; } proc none_of() { a = none; } "

    def turn(self, text):
        """Lets (0,) make all steps before the first task does, and then become first; returns the machine and the
        events, and how many steps the task had made."""
        machine = self.machine(self.HEAD + text)
        self.spawn(machine)
        self.exhaust(machine, (0,))
        steps = self.steps_of(machine, (0,))
        events = self.first_until(machine, (0,))
        return machine, events, steps

    def finished(self, machine, *out):
        """The machine goes on to the end like the sequential run."""
        self.accounts(machine)
        machine.step_first(2000)
        run = Serial(machine.program, [])
        while serial_step(run):
            pass
        self.assertEqual(state_of(machine), state_of(run))
        self.assertEqual(machine.moment, run.moment)
        self.assertEqual(machine.out, [integer(number) for number in out])

    def test_no_wrong_reading(self):
        for text in ("ahead p(1); var x = b; var y = a; print x + y;", "ahead p(1); var y = a; var x = b; print x + y;"):
            machine, events, steps = self.turn(text)
            self.assertEqual(events, [("published", (0,), steps)])
            self.assertEqual(machine.vain, 0)
            self.finished(machine, 3)

    def test_no_reading(self):
        machine, events, steps = self.turn("ahead p(5); b = 4; a = 3; var x = a; print x;")
        self.assertEqual(events, [("published", (0,), steps)])
        self.finished(machine, 3)

    def test_the_first_reading_is_wrong(self):
        machine, events, steps = self.turn("ahead p(5); var x = a; b = x; print b;")
        self.assertEqual(events, [("published", (0,), 0), ("back", (0,), 0)])
        self.assertEqual(machine.vain, steps)
        self.assertEqual(machine.value_at(((), 0, 1)), integer(2))
        self.finished(machine, 5)

    def test_a_later_reading_is_wrong(self):
        machine, events, steps = self.turn("ahead p(5); b = b + 1; var x = a + b; x = a; print x;")
        # load, push, both, store; the next reading of others is that of a.
        self.assertEqual(events, [("published", (0,), 4), ("back", (0,), 4)])
        self.assertEqual(machine.vain, steps - 4)
        self.assertEqual(machine.value_at(((), 0, 1)), integer(3))
        self.assertEqual(machine.behind, [])
        self.finished(machine, 5)

    def test_the_first_of_two_wrong_readings(self):
        machine, events, _ = self.turn("ahead p(5); var x = a; x = x + b; x = a; print x;")
        self.assertEqual(events, [("published", (0,), 0), ("back", (0,), 0)])
        self.finished(machine, 5)

    def test_a_value_that_was_changed_and_changed_back(self):
        machine, events, steps = self.turn("ahead back(); var x = a; print x;")
        self.assertEqual(events, [("published", (0,), steps)])
        self.finished(machine, 1)

    def test_a_reading_between(self):
        machine = self.machine(self.HEAD + "ahead back(); var x = a; print x;")
        self.spawn(machine)
        while machine.value_at(((), 0, 0)) != integer(7):
            machine.step_first(1)
        machine.step_task((0,))
        self.assertEqual(machine.readings_of((0,)), ((((), 0, 0), integer(7), 0),))
        self.assertEqual(self.first_until(machine, (0,)), [("published", (0,), 0), ("back", (0,), 0)])
        self.finished(machine, 1)

    def test_writes_of_none(self):
        machine, events, steps = self.turn("ahead p(5); a = none; b = none; var x = b == none; if (x) { b = 4; } print b;")
        self.assertEqual(events, [("published", (0,), steps)])
        self.assertNotIn(((), 0, 0), machine.memory)
        self.assertEqual(machine.value_at(((), 0, 0)), NONE)
        self.finished(machine, 4)
        machine, events, _ = self.turn("ahead none_of(); var x = a; if (x == none) { print 6; } else { print x; }")
        self.assertEqual(events, [("published", (0,), 0), ("back", (0,), 0)])
        self.assertNotIn(((), 0, 0), machine.memory)
        self.finished(machine, 6)

    def test_a_reading_of_none_that_is_right_or_wrong(self):
        machine, events, steps = self.turn("var c = none; ahead p(5); var x = d; print 1; var d = none;")
        self.assertEqual(events, [("published", (0,), steps)])
        self.finished(machine, 1)
        machine, events, _ = self.turn("ahead set(); if (d == none) { print 1; } else { print d; } proc set() { d = 3; } var d = 0;")
        self.assertEqual(events, [("published", (0,), 0), ("back", (0,), 0)])
        self.finished(machine, 3)

    def test_objects_and_numbers_of_what_is_kept(self):
        text = ("record r(x); ahead p(5); var o = new r(); o.x = b; var q = new r(); q.x = a; var s = new r(); s.x = q; print q.x;")
        machine, events, steps = self.turn(text)
        self.assertEqual(events[1][0], "back")
        # The third object was made behind the wrong reading, and is no more.
        self.assertEqual((machine.task, machine.made, machine.spawned), ((0,), 2, 0))
        self.assertEqual(machine.value_at(((0,), 0, 0)), text_value("r"))
        self.assertEqual(machine.value_at(((0,), 0, 1)), integer(2))
        self.assertEqual(machine.value_at(((0,), 2, 0)), NONE)
        self.finished(machine, 5)
        self.assertEqual(machine.value_at(((0,), 2, 0)), text_value("r"))

    SPAWNING = ("var g = 0; var k = 0; proc w(n) { g = n; } proc c(n) { k = n; } proc d(n) { ahead e(n); k = n; }"
                " proc e(n) { var x = g; ahead f(x); k = x; } proc f(n) { ahead c(n); k = n; } ahead w(VALUE); ahead d(1); print k;"
                " print g;")

    def spawning(self, value):
        machine = self.machine(self.SPAWNING.replace("VALUE", str(value)))
        self.spawn(machine)
        self.exhaust(machine, (0,))
        # (0,) spawns what follows d, e, f and c; it reads g between its second and its third spawn.
        self.assertEqual(machine.order(), ((), (0,), (0, 3), (0, 2), (0, 1), (0, 0)))
        self.exhaust(machine, (0, 0), (0, 1), (0, 3), (0, 2))
        self.assertEqual(len(machine), 6)
        return machine

    def test_tasks_that_are_dropped(self):
        machine = self.spawning(5)
        rows = {row[0]: row for row in machine.behind}
        steps = {row[0]: row[1] for row in machine.look()[5]}
        events = self.first_until(machine, (0,))
        kept = [run[4] for place, _, run in rows[(0,)][3] if place == ((), 0, 0)][0]
        self.assertEqual(events, [("published", (0,), kept), ("back", (0,), kept), ("dropped", (0, 3)), ("dropped", (0, 2))])
        # The others stay as they are, in their order.
        self.assertEqual(machine.behind, [rows[(0, 1)], rows[(0, 0)]])
        self.assertEqual((machine.order(), machine.spawned), (((0,), (0, 1), (0, 0)), 2))
        self.assertEqual(machine.vain, steps[(0,)] - kept + steps[(0, 3)] + steps[(0, 2)])
        self.finished(machine, 1, 5)

    def test_no_task_is_dropped_where_nothing_is_wrong(self):
        machine = self.spawning(0)
        rows = machine.behind[1:]
        steps = self.steps_of(machine, (0,))
        self.assertEqual(self.first_until(machine, (0,)), [("published", (0,), steps)])
        self.assertEqual((machine.behind, machine.spawned, machine.vain), (rows, 4, 0))
        self.finished(machine, 1, 0)

    def test_tasks_of_tasks_that_are_dropped(self):
        text = ("var g = 0; proc w() { g = 1; } proc u() { } proc d() { var x = g; ahead u(); } ahead w(); ahead d(); ahead u();"
                " ahead u(); print g;")
        machine = self.machine(text)
        self.spawn(machine)
        self.exhaust(machine, (0,), (0, 1), (0, 0), (0, 0, 0))
        self.assertEqual(machine.order(), ((), (0,), (0, 1), (0, 0), (0, 0, 0), (0, 0, 0, 0)))
        events = self.first_until(machine, (0,))
        self.assertEqual([event[:2] for event in events], [("published", (0,)), ("back", (0,)), ("dropped", (0, 1))])
        self.assertEqual(machine.order(), ((0,), (0, 0), (0, 0, 0), (0, 0, 0, 0)))
        # Now from a reading before every spawn: all that come from them are dropped, in the order of the tasks.
        text = ("var g = 0; proc w() { g = 1; } proc u() { ahead v(); } proc v() { } ahead w(); var x = g; ahead u(); ahead u();"
                " ahead u(); print g;")
        machine = self.machine(text)
        self.spawn(machine)
        self.exhaust(machine, (0,), (0, 0), (0, 0, 0))
        order = ((0, 1), (0, 0), (0, 0, 1), (0, 0, 0), (0, 0, 0, 1), (0, 0, 0, 0))
        self.assertEqual(machine.order(), ((), (0,)) + order)
        work = sum(row[1] for row in machine.look()[5])
        events = self.first_until(machine, (0,))
        self.assertEqual(events, [("published", (0,), 0), ("back", (0,), 0)] + [("dropped", name) for name in order])
        self.assertEqual((machine.order(), machine.vain), (((0,),), work))
        self.finished(machine, 1)

    def test_tasks_of_other_tasks_stay(self):
        text = ("var g = 0; var h = 0; proc w() { ahead v(); g = 1; } proc v() { h = 1; } proc u() { } ahead w(); var x = g; ahead u();"
                " print x;")
        machine = self.machine(text)
        self.spawn(machine, 2)
        self.assertEqual(machine.order(), ((), (1,), (0,)))
        self.exhaust(machine, (0,), (1,))
        self.assertEqual(machine.order(), ((), (1,), (0,), (0, 0)))
        rows = machine.behind[1:]
        events = self.first_until(machine, (1,))
        self.assertEqual([event[0] for event in events], ["published"])
        self.assertEqual(machine.behind, rows)
        events = self.first_until(machine, (0,))
        self.assertEqual(events, [("published", (0,), 0), ("back", (0,), 0), ("dropped", (0, 0))])
        self.finished(machine, 1)

    def test_a_task_that_has_made_no_step(self):
        machine = self.machine(self.HEAD + "ahead p(5); print a;")
        self.spawn(machine)
        begin = machine.behind[0][1]
        self.assertEqual(self.first_until(machine, (0,)), [("published", (0,), 0)])
        self.assertEqual((machine.local, machine.made, machine.spawned), (begin, 0, 0))
        self.finished(machine, 5)


class TestLosing(MachineCase):
    TEXT = ("var g = 1; var h = 2; var k = 3; proc w() { k = 4; } proc d(n) { ahead e(g + n); } proc e(n) { k = n; }"
            " ahead w(); var x = g; ahead d(h); print g; print k;")

    def ready(self):
        """Returns a machine in which (0,) has read g, h and g, and has spawned a task between."""
        machine = self.machine(self.TEXT)
        self.spawn(machine)
        self.exhaust(machine, (0,))
        self.assertEqual(machine.order(), ((), (0,), (0, 1), (0, 0)))
        self.exhaust(machine, (0, 0), (0, 1))
        self.assertEqual([place[2] for place, _, _ in machine.readings_of((0,))], [0, 1, 0])
        self.accounts(machine)
        return machine

    def test_wholly(self):
        machine = self.ready()
        before = self.fields(machine)
        steps = {row[0]: row[1] for row in machine.look()[5]}
        name, begin, _, _ = machine.behind[0]
        self.assertEqual(machine.lose((0,)), [("lost", (0,), 0), ("dropped", (0, 1)), ("dropped", (0, 0))])
        wanted = {**before, "behind": [(name, begin, (begin, (), 0, 0, 0), ())], "vain": sum(steps.values())}
        self.assertEqual(self.fields(machine), wanted)
        self.accounts(machine)
        self.goes_on(machine)

    def test_from_each_reading_on(self):
        for number, dropped in ((0, [(0, 1), (0, 0)]), (1, [(0, 1)]), (2, [])):
            machine = self.ready()
            before = self.fields(machine)
            steps = {row[0]: row[1] for row in machine.look()[5]}
            name, begin, _, readings = machine.behind[0]
            run = readings[number][2]
            events = machine.lose((0,), number)
            self.assertEqual(events, [("lost", (0,), run[4])] + [("dropped", task) for task in dropped])
            stays = [row for row in before["behind"][1:] if row[0] not in dropped]
            vain = steps[(0,)] - run[4] + sum(steps[task] for task in dropped)
            wanted = {**before, "behind": [(name, begin, run, readings[:number])] + stays, "vain": vain}
            self.assertEqual(self.fields(machine), wanted)
            self.accounts(machine)
            self.goes_on(machine)

    def test_what_was_spawned_before_stays(self):
        text = "var g = 1; proc w() { } proc d() { var x = g; ahead w(); } ahead w(); ahead d(); print g;"
        machine = self.machine(text)
        self.spawn(machine)
        self.exhaust(machine, (0,), (0, 0), (0, 1))
        self.assertEqual(machine.order(), ((), (0,), (0, 1), (0, 0)))
        row = machine.behind[2]
        self.assertEqual(machine.lose((0,), 0), [("lost", (0,), 2), ("dropped", (0, 1))])
        self.assertEqual(machine.behind[1:], [row])
        self.assertEqual(machine.lose((0,)), [("lost", (0,), 0), ("dropped", (0, 0))])
        self.goes_on(machine)

    def test_a_reading_that_is_not_there(self):
        for number in (3, 4, 100):
            machine = self.ready()
            before = self.fields(machine)
            steps = self.steps_of(machine, (0,))
            self.assertEqual(machine.lose((0,), number), [("lost", (0,), steps)])
            self.assertEqual(self.fields(machine), before)
        machine = self.ready()
        self.assertEqual(machine.lose((0, 1), 0), [("lost", (0, 1), self.steps_of(machine, (0, 1)))])

    def test_twice(self):
        machine = self.ready()
        machine.lose((0,), 1)
        self.assertEqual(machine.lose((0,), 1), [("lost", (0,), machine.behind[0][2][4])])
        machine.lose((0,))
        self.assertEqual(machine.lose((0,)), [("lost", (0,), 0)])
        self.assertEqual(machine.lose((0,), 0), [("lost", (0,), 0)])
        self.accounts(machine)
        self.goes_on(machine)

    def test_other_tasks_behind(self):
        machine = self.ready()
        before = list(machine.behind)
        self.assertEqual(machine.lose((0, 0)), [("lost", (0, 0), 0)])
        self.assertEqual(machine.behind[:2], before[:2])
        self.assertEqual(machine.behind[2][2], (before[2][1], (), 0, 0, 0))
        self.goes_on(machine)

    def test_no_task_behind(self):
        machine = self.ready()
        for task in ((), (1,), (0, 2), (0, 0, 0)):
            self.nothing(machine, machine.lose, task)
            self.nothing(machine, machine.lose, task, 0)
            self.nothing(machine, machine.lose, task, None)
        new = self.machine(self.TEXT)
        self.nothing(new, new.lose, ())

    def test_none_by_name(self):
        machine = self.ready()
        self.assertEqual(machine.lose(task=(0,), at=None)[0], ("lost", (0,), 0))

    def goes_on(self, machine):
        machine.step_first(2000)
        run = Serial(machine.program, [])
        while serial_step(run):
            pass
        self.assertEqual(state_of(machine), state_of(run))
        self.accounts(machine)


class TestCalls(MachineCase):
    TEXT = "var v = 0; ahead p(1); var x = v; ahead p(2); print v; proc p(n) { v = n; }"

    def test_step_all(self):
        machine = self.machine(self.TEXT)
        self.assertEqual(machine.step_all([]), [])
        self.assertEqual(machine.step_all([()] * 4), [])
        self.assertEqual(machine.order(), ((), (0,)))
        # Names that no task has, or has no more, make no step.
        self.assertEqual(machine.step_all(((5,), (0,), (), (0, 0))), [])
        self.assertEqual((machine.moment, machine.work), (5, 6))
        events = machine.step_all([()] * 100)
        self.assertEqual(events, [("published", (0,), 0), ("back", (0,), 0)])
        self.assertEqual(machine.task, (0,))
        events = machine.step_all([(0,)] * 100 + [(0, 0)] * 100)
        self.assertEqual(events, [("published", (0, 0), 0)])
        self.assertEqual(machine.ended, ("done",))

    def test_step_all_is_step_task_for_each(self):
        names = [()] * 4 + [(0,), (), (0,), (0,)] * 5 + [(0, 0), (), (0,)] * 30
        one = self.machine(self.TEXT)
        other = self.machine(self.TEXT)
        events = []
        for name in names:
            events += other.step_task(name)
        self.assertEqual(one.step_all(names), events)
        self.assertEqual(self.fields(one), self.fields(other))
        self.assertTrue(events)

    def test_step_first(self):
        machine = self.machine(self.TEXT)
        self.assertEqual(machine.step_first(0), [])
        self.assertEqual(machine.moment, 0)
        other = self.machine(self.TEXT)
        events = machine.step_first(30)
        single = []
        for _ in range(30):
            single += other.step_first(1)
        self.assertEqual((events, self.fields(machine)), (single, self.fields(other)))
        # Far beyond the end.
        machine.step_first(10 ** 12)
        self.assertEqual(machine.ended, ("done",))

    def test_names_that_no_task_has(self):
        machine = self.machine(self.TEXT)
        self.spawn(machine)
        for name in ((1,), (0, 0), (0, 0, 0), (7, 7)):
            self.nothing(machine, machine.step_task, name)
            self.assertEqual(machine.readings_of(name), ())

    def test_readings_of(self):
        machine = self.machine(self.TEXT)
        self.assertEqual(machine.readings_of(()), ())
        self.spawn(machine)
        self.assertEqual(machine.readings_of(()), ())
        self.assertEqual(machine.readings_of((0,)), ())
        machine.step_task((0,))
        self.assertEqual(machine.readings_of((0,)), ((((), 0, 0), integer(0), 0),))
        self.assertEqual(machine.readings_of(()), ())

    def test_value_at(self):
        machine = self.machine(self.TEXT)
        self.assertEqual(machine.value_at(((), 0, 0)), NONE)
        self.spawn(machine)
        self.assertEqual(machine.value_at(((), 0, 0)), integer(0))
        self.assertEqual(machine.value_at(((), 0, 1)), NONE)
        self.exhaust(machine, (0,))
        # What the task behind has written is not in the memory.
        self.assertEqual(machine.value_at(((), 0, 1)), NONE)
        self.assertEqual(machine.value_at(((3, 1), 4, 5)), NONE)
        machine.step_first(1000)
        self.assertEqual((machine.value_at(((), 0, 0)), machine.value_at(((), 0, 1))), (integer(2), integer(1)))
        self.assertNotIn(((3, 1), 4, 5), machine.memory)

    def test_look_order_and_len(self):
        machine = self.machine(self.TEXT)
        self.spawn(machine)
        self.exhaust(machine, (0,), (0, 0))
        moment, work, vain, ended, out, tasks = machine.look()
        self.assertEqual((moment, vain, ended, out), (4, 0, None, ()))
        self.assertEqual(tasks[0], ((), 0, 0, False))
        self.assertEqual([row[0] for row in tasks], [(), (0,), (0, 0)])
        self.assertEqual([row[3] for row in tasks], [False, True, True])
        self.assertEqual([row[2] for row in tasks], [0, 1, 1])
        self.assertEqual([row[1] for row in tasks[1:]], [row[2][4] for row in machine.behind])
        self.assertEqual(work, 4 + tasks[1][1] + tasks[2][1])
        self.assertEqual((machine.order(), len(machine)), (((), (0,), (0, 0)), 3))
        before = self.fields(machine)
        machine.look()
        self.assertEqual(self.fields(machine), before)

    def test_moment_and_work_behind_each_step(self):
        machine = self.machine(self.TEXT)
        for number in range(1, 5):
            machine.step_task(())
            self.assertEqual(machine.look()[:3], (number, number, 0))
        for number in range(1, 3):
            machine.step_task((0,))
            self.assertEqual(machine.look()[:3], (4, 4 + number, 0))
        # The task (0,) has made two steps, its reading among them, which are not kept.
        self.first_until(machine, (0,))
        self.assertEqual(machine.vain, 2)
        self.assertEqual(machine.work, machine.moment + 2)


if __name__ == "__main__":
    unittest.main()
