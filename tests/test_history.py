"""[b1] to [b4]: states of the sequential run, changes and reasons, readers, visits of lines."""

import random
import unittest

from foretask.errors import UnknownVariable
from foretask.history import changes, readers, reason, state_at, visits
from foretask.machine import Machine
from foretask.serial import Serial, next_action, serial_step, value_of
from tests.programs import WRITTEN, made, races
from tests.support import NONE, TRUE, Case, integer, program_of, text_value

CALLS = """var total = 0;
proc add(n, m) {
  var k = n;
  twice(k);
  total = total + n;
}
proc twice(x) {
  print x;
}
ahead add(1, 2);
print total;
"""


class HistoryCase(Case):
    def run_of(self, text, inputs=(), limit=2000):
        """Returns the rows (task, line, action) of the steps of the sequential run."""
        program = program_of(text)
        run = Serial(program, inputs)
        rows = []
        while run.ended is None and run.moment < limit:
            rows.append((run.task, program.lines[run.local[0]], next_action(run)))
            serial_step(run)
        return rows

    def steps(self, rows, kind, number):
        """Returns the steps that read or write a variable of the program."""
        return [step for step, row in enumerate(rows) if row[2][:2] == (kind, ((), 0, number))]

    def unknown(self, function, *arguments):
        name = arguments[-1]
        with self.subTest(function=function.__name__, name=name):
            with self.assertRaises(UnknownVariable) as caught:
                function(*arguments)
            self.assertEqual(caught.exception.name, name)


class TestStateAt(HistoryCase):
    def state(self, text, moment, inputs=()):
        return state_at(program_of(text), inputs, moment)

    def first(self, text, line, count=1):
        """Returns the moment of the first step of a line, or of a later one of them."""
        rows = self.run_of(text)
        return [step for step, row in enumerate(rows) if row[1] == line][count - 1]

    def test_the_beginning(self):
        self.assertEqual(self.state("var v = 1;", 0), (None, (), 0, (), (), (("v", NONE),), (), 0, ()))
        self.assertEqual(self.state("", 0), (None, (), 0, (), (), (), (), 0, ()))
        self.assertEqual(self.state("var v = read();", 0, [TRUE, NONE])[7], 2)

    def test_within_calls(self):
        moment = self.first(CALLS, 8)
        found = self.state(CALLS, moment)
        # The innermost call first: twice is called in line 4, add in line 10. The rest of the program waits.
        self.assertEqual(found, (None, (), 8, (4, 10), (("x", integer(1)),), (("total", integer(0)),), (), 0, ((0,),)))
        moment = self.first(CALLS, 5)
        self.assertEqual(self.state(CALLS, moment), (
            None, (), 5, (10,), (("n", integer(1)), ("m", integer(2)), ("k", integer(1))), (("total", integer(0)),),
            (integer(1),), 0, ((0,),),
        ))

    def test_the_steps_of_a_call(self):
        rows = self.run_of(CALLS)
        call = [step for step, row in enumerate(rows) if row[2][0] == "make" and row[1] == 10][0]
        before = self.state(CALLS, call)
        self.assertEqual((before[2], before[3], before[4]), (10, (), ()))
        # The parameters are stored by instructions of the line 0.
        behind = self.state(CALLS, call + 1)
        self.assertEqual((behind[2], behind[3], behind[4]), (0, (10,), (("n", NONE), ("m", NONE), ("k", NONE))))
        behind = self.state(CALLS, call + 2)
        self.assertEqual(behind[4], (("n", NONE), ("m", integer(2)), ("k", NONE)))

    def test_tasks_that_wait(self):
        text = "proc p() { ahead q(); print 1; } proc q() {\nprint 2; }\nahead p();\nprint 3;"
        moment = self.first(text, 2)
        # The task (1,) goes on behind the call of q, the task (0,) behind that of p.
        self.assertEqual(self.state(text, moment)[8], ((1,), (0,)))
        self.assertEqual(self.state(text, moment)[:4], (None, (), 2, (1, 3)))
        found = self.state(text, self.first(text, 4))
        self.assertEqual(found[1:4] + found[8:], ((0,), 4, (), ()))

    def test_a_task_within_a_call_that_another_task_made(self):
        text = "proc p(n) { ahead q();\nprint n; } proc q() { }\np(7);"
        found = self.state(text, self.first(text, 2))
        self.assertEqual(found[1:5], ((0,), 2, (3,), (("n", integer(7)),)))

    def test_the_end(self):
        rows = self.run_of(CALLS)
        end = len(rows)
        found = self.state(CALLS, end)
        self.assertEqual(found, (("done",), (0,), 0, (), (), (("total", integer(1)),), (integer(1), integer(1)), 0, ()))
        self.assertEqual(self.state(CALLS, end - 1), (None,) + found[1:])
        for moment in (end + 1, 1999, 2000, 2001):
            self.assertEqual(self.state(CALLS, moment), found)

    def test_a_failed_end(self):
        text = "ahead p(1);\nprint 1;\nproc p(n) {\nthrow n; }"
        found = self.state(text, 2000)
        # The last local state stays: the line of the throw, inside the call, and the task that waits.
        self.assertEqual(found, (("failed", integer(1)), (), 4, (1,), (("n", integer(1)),), (), (), 0, ((0,),)))

    def test_variables_that_were_never_assigned(self):
        text = "p(); proc p() {\nif (false) { var w = 1; } print v;\n} var v = 1; var u = w; var w = 2;"
        found = self.state(text, self.first(text, 2))
        self.assertEqual((found[4], found[5]), ((("w", NONE),), (("v", NONE), ("u", NONE), ("w", NONE))))

    def test_objects_as_values(self):
        self.assertEqual(self.state("var a = array(2);", 2000)[5], (("a", ("object", (), 1)),))

    def test_inputs_are_not_changed(self):
        inputs = [integer(4), text_value("a")]
        self.assertEqual(self.state("var v = read();", 2000, inputs)[5:8], ((("v", integer(4)),), (), 1))
        self.assertEqual(inputs, [integer(4), text_value("a")])

    def test_against_machines(self):
        """[b4]"""
        for number, (text, inputs) in enumerate(WRITTEN + races(25, 1500) + made(10, 2600)):
            program = program_of(text)
            chance = random.Random(number)
            machine = Machine(program, inputs, tasks=500, steps=500)
            with self.subTest(text=text):
                for _ in range(25):
                    for _ in range(12):
                        machine.step_task(chance.choice(machine.order()[:5]))
                    ended, task, _, _, _, _, out, left, behind = state_at(program, inputs, machine.moment)
                    self.assertEqual((ended, task, out), (machine.ended, machine.task, tuple(machine.out)))
                    names = machine.order()[1:]
                    roots = [name for name in names if not any(name[:at] in names for at in range(len(name)))]
                    self.assertEqual((left, behind), (len(machine.left), tuple(roots)))

    def test_lines_calls_and_variables(self):
        # Which procedures run is told by the calls and returns that were made, not by the control.
        for text, inputs in WRITTEN[:12] + races(10, 1600):
            text = text.replace("; ", ";\n")
            program = program_of(text)
            run = Serial(program, inputs)
            with self.subTest(text=text):
                while run.moment < 120 and run.ended is None:
                    found = state_at(program, inputs, run.moment)
                    calls = [entry[1] for entry in run.local[4] if entry[0] == "call"]
                    self.assertEqual((found[2], found[3]), (
                        program.lines[run.local[0]], tuple(program.lines[address - 1] for address in calls)))
                    # The procedure is the one in whose code the next instruction stands.
                    around = [row for row in program.procedures if row[2] <= run.local[0]]
                    if around:
                        self.assertTrue(calls)
                        _, task, number = run.local[2]
                        wanted = [(name, value_of(run.memory, (task, number, cell)))
                                  for cell, name in enumerate(around[-1][1])]
                        self.assertEqual(found[4], tuple(wanted))
                    else:
                        self.assertEqual((found[4], calls), ((), []))
                    self.assertEqual(found[5], tuple(
                        (name, value_of(run.memory, ((), 0, cell))) for cell, name in enumerate(program.variables)))
                    serial_step(run)


class TestChanges(HistoryCase):
    TEXT = "var v = 1; v = 1; var u = 2; v = 3; v = none; v = none; v = \"a\"; v = true; v = 1;"

    def test_changes(self):
        writes = self.steps(self.run_of(self.TEXT), "write", 0)
        found = changes(program_of(self.TEXT), (), 2000, "v")
        # The second 1 and the second none are no changes.
        values = {0: integer(1), 2: integer(3), 3: NONE, 5: text_value("a"), 6: TRUE, 7: integer(1)}
        self.assertEqual(found, tuple((writes[at] + 1, value) for at, value in values.items()))
        self.assertEqual([value for _, value in changes(program_of(self.TEXT), (), 2000, "u")], [integer(2)])

    def test_none_at_first_is_no_change(self):
        self.assertEqual(changes(program_of("var v = none; print 1;"), (), 2000, "v"), ())

    def test_limits(self):
        program = program_of(self.TEXT)
        whole = changes(program, (), 2000, "v")
        count = len(self.run_of(self.TEXT))
        for limit in list(range(count + 2)) + [1999, 2001]:
            # The step limit - 1 is the last one that counts, so a change at the moment limit does.
            self.assertEqual(changes(program, (), limit, "v"), tuple(row for row in whole if row[0] <= limit))
        self.assertEqual(changes(program, (), 0, "v"), ())

    def test_changes_by_every_task(self):
        text = "var v = 0; ahead p(); v = v + 1; print v; proc p() { v = 5; var w = 7; }"
        rows = self.run_of(text)
        writes = self.steps(rows, "write", 0)
        self.assertEqual([rows[step][0] for step in writes], [(), (), (0,)])
        self.assertEqual(changes(program_of(text), (), 2000, "v"),
                         tuple(zip([step + 1 for step in writes], (integer(0), integer(5), integer(6)))))

    def test_unknown_variables(self):
        # A variable of a procedure, a counter, a procedure, a record, nothing.
        program = program_of("record r(f); var v = 1; proc p(n) { var w = 1; } for (i = 1 to 2) { p(i); }")
        for name in ("w", "n", "i", "p", "r", "f", "V", "", "x"):
            self.unknown(changes, program, (), 2000, name)
            self.unknown(changes, program, (), 0, name)
            self.unknown(reason, program, (), 0, name)
            self.unknown(reason, program, (), 2000, name)
            self.unknown(readers, program, (), 0, 0, name)
            self.unknown(readers, program, (), 0, 2000, name)
        self.assertEqual(changes(program, (), 2000, "v"), ((3, integer(1)),))

    def test_variables_of_procedures_with_the_same_name(self):
        text = "var u = 1; var v = 2; proc p(v) { v = 9; u = v; } p(4);"
        self.assertEqual([value for _, value in changes(program_of(text), (), 2000, "v")], [integer(2)])
        self.assertEqual([value for _, value in changes(program_of(text), (), 2000, "u")], [integer(1), integer(9)])


class TestReason(HistoryCase):
    TEXT = "var v = 1;\nvar u = 2;\nahead p();\nv = 4;\nprint v;\nproc p() {\nv = 3;\n}"

    def test_reason(self):
        program = program_of(self.TEXT)
        rows = self.run_of(self.TEXT)
        first, second, third = self.steps(rows, "write", 0)
        self.assertEqual(reason(program, (), first, "v"), None)
        self.assertEqual(reason(program, (), 0, "v"), None)
        for moment in range(first + 1, second + 1):
            self.assertEqual(reason(program, (), moment, "v"), (first, (), 1))
        for moment in range(second + 1, third + 1):
            self.assertEqual(reason(program, (), moment, "v"), (second, (), 7))
        for moment in (third + 1, len(rows), len(rows) + 5, 2000):
            self.assertEqual(reason(program, (), moment, "v"), (third, (0,), 4))
        self.assertEqual(reason(program, (), 2000, "u")[1:], ((), 2))

    def test_a_write_of_the_same_value_counts(self):
        text = "var v = 1;\nv = 1;\nv = none;\nv = none;"
        steps = self.steps(self.run_of(text), "write", 0)
        self.assertEqual([reason(program_of(text), (), step + 1, "v") for step in steps],
                         [(step, (), line) for step, line in zip(steps, (1, 2, 3, 4))])

    def test_a_variable_that_nobody_writes(self):
        self.assertEqual(reason(program_of("if (false) { var v = 1; }"), (), 2000, "v"), None)


class TestReaders(HistoryCase):
    TEXT = "var v = 1; var u = v; ahead p(v); print v; v = u; proc p(n) { u = n + v; }"

    def test_readers(self):
        program = program_of(self.TEXT)
        rows = self.run_of(self.TEXT)
        steps = self.steps(rows, "read", 0)
        self.assertEqual([rows[step][0] for step in steps], [(), (), (), (0,)])
        self.assertEqual(readers(program, (), 0, 2000, "v"), tuple(steps))
        self.assertEqual(len(readers(program, (), 0, 2000, "u")), 1)

    def test_first_and_last(self):
        program = program_of(self.TEXT)
        rows = self.run_of(self.TEXT)
        steps = self.steps(rows, "read", 0)
        for first in range(0, len(rows) + 2, 3):
            for last in range(0, len(rows) + 2):
                self.assertEqual(readers(program, (), first, last, "v"), tuple(s for s in steps if first <= s < last))
        self.assertEqual(readers(program, (), steps[1], steps[1] + 1, "v"), (steps[1],))
        self.assertEqual(readers(program, (), steps[1], steps[1], "v"), ())
        self.assertEqual(readers(program, (), 2000, 0, "v"), ())
        self.assertEqual(readers(program, (), 2000, 2000, "v"), ())

    def test_cells_of_other_objects_are_not_read_with_it(self):
        self.assertEqual(readers(program_of("var v = 1; proc p(n) { print n; } p(2); var a = array(1); print a[0];"), (), 0, 2000, "v"), ())


class TestVisits(HistoryCase):
    def test_visits(self):
        text = "var v = 1;\nv = v + 1;\nprint v; print v;\nv = 3;"
        rows = self.run_of(text)
        program = program_of(text)
        for line in (1, 2, 3, 4):
            self.assertEqual(visits(program, (), 2000, line), ([row[1] for row in rows].index(line),))
        self.assertEqual(visits(program, (), 2000, 5), ())
        self.assertEqual(visits(program, (), 2000, 8000), ())

    def test_lines_that_are_left_and_come_again(self):
        text = "for (i = 1 to 3) {\nprint i;\n}"
        rows = [row[1] for row in self.run_of(text)]
        program = program_of(text)
        self.assertEqual(visits(program, (), 2000, 2), tuple(at for at, line in enumerate(rows) if line == 2 and rows[at - 1] == 1))
        self.assertEqual(len(visits(program, (), 2000, 2)), 3)
        # The line of the loop: before the first turn, and behind each turn.
        self.assertEqual(len(visits(program, (), 2000, 1)), 4)
        # Two turns on one line are one visit.
        self.assertEqual(len(visits(program_of("for (i = 1 to 3) { print i; }"), (), 2000, 1)), 1)

    def test_another_task_at_the_same_line(self):
        text = "ahead for (i = 1 to 3) { var v = i; }"
        rows = self.run_of(text)
        begins = [[row[0] for row in rows].index(task) for task in ((0,), (0, 0), (0, 0, 0))]
        self.assertEqual(visits(program_of(text), (), 2000, 1), ([row[1] for row in rows].index(1), *begins))

    def test_calls(self):
        text = "var x = q(); p(x);\nproc p(n) {\nprint n; } proc q() { return 1; }"
        rows = [row[1] for row in self.run_of(text)]
        # The line 1 is left for the procedure q, in line 3, and for p.
        self.assertEqual(visits(program_of(text), (), 2000, 1),
                         tuple(at for at, line in enumerate(rows) if line == 1 and rows[at - 1] != 1))
        self.assertEqual(len(visits(program_of(text), (), 2000, 1)), 3)

    def test_limits(self):
        text = "for (i = 1 to 3) {\nprint i;\n}"
        program = program_of(text)
        whole = visits(program, (), 2000, 2)
        for limit in range(whole[-1] + 3):
            self.assertEqual(visits(program, (), limit, 2), tuple(moment for moment in whole if moment < limit))
        self.assertEqual(visits(program, (), 0, 1), ())
        # A run without end.
        program = program_of("while (true) {\nv = 1; }\nvar v = 0;")
        self.assertEqual(visits(program, (), 2000, 2)[:2], (4, 9))
        self.assertEqual(visits(program, (), 5, 2), (4,))
        self.assertEqual(visits(program, (), 4, 2), ())

    def test_the_end_is_no_visit(self):
        # At the end no task is about to make a step.
        text = "print 1;\nthrow 2;"
        rows = self.run_of(text)
        self.assertEqual(visits(program_of(text), (), 2000, 2), ([row[1] for row in rows].index(2),))
        self.assertEqual(len(visits(program_of("throw 2;"), (), 2000, 1)), 1)


class TestWhatHolds(HistoryCase):
    """[b4]"""

    def test_values_changes_reasons_and_readers(self):
        for text, inputs in WRITTEN[:14] + races(20, 1700):
            program = program_of(text)
            rows = self.run_of(text, inputs, 150)
            with self.subTest(text=text):
                for number, name in enumerate(program.variables):
                    found = changes(program, inputs, 150, name)
                    self.assertEqual([row[0] for row in found], sorted(row[0] for row in found))
                    reads = readers(program, inputs, 0, 150, name)
                    self.assertEqual(reads, tuple(self.steps(rows, "read", number)))
                    writes = self.steps(rows, "write", number)
                    for moment in range(0, len(rows) + 1, 13):
                        value = dict(state_at(program, inputs, moment)[5])[name]
                        before = [row[1] for row in found if row[0] <= moment]
                        self.assertEqual(value, before[-1] if before else NONE)
                        last = [step for step in writes if step < moment]
                        why = reason(program, inputs, moment, name)
                        if last:
                            self.assertEqual(why, (last[-1],) + rows[last[-1]][:2])
                            self.assertEqual(rows[last[-1]][2][2], value)
                        else:
                            self.assertEqual((why, value), (None, NONE))

    def test_visits_of_all_lines(self):
        for text, inputs in WRITTEN[:14] + races(15, 1800):
            text = text.replace("; ", ";\n")
            program = program_of(text)
            rows = [row[:2] for row in self.run_of(text, inputs, 200)]
            wanted = {}
            for at, (task, line) in enumerate(rows):
                if at == 0 or rows[at - 1] != (task, line):
                    wanted.setdefault(line, []).append(at)
            with self.subTest(text=text):
                for line in range(1, max(program.lines) + 2):
                    self.assertEqual(visits(program, inputs, 200, line), tuple(wanted.get(line, ())))


if __name__ == "__main__":
    unittest.main()
