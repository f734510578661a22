"""[f5]: advice on the lines that spawn tasks."""

import unittest

from foretask.advice import advice
from foretask.back import taken_back
from foretask.profiles import profile
from foretask.serial import Serial, serial_step
from foretask.trace import trace
from tests.programs import WRITTEN, made, races
from tests.support import integer, program_of
from tests.test_moments import EXAMPLE, MomentsCase


class TestAdvice(MomentsCase):
    def advice(self, text, inputs=(), limit=400):
        return advice(program_of(text), inputs, limit)

    def test_the_example(self):
        # Each line spawns one task: (0,) loses 8 steps, (0, 0) loses 3. The writes stand in line 2.
        self.assertEqual(self.advice(EXAMPLE), ((3, 1, 1, 8, (2,)), (4, 1, 1, 3, (2,))))

    def test_limits(self):
        self.assertEqual(self.advice(EXAMPLE, limit=0), ())
        self.assertEqual(self.advice(EXAMPLE, limit=3), ())
        # The task is spawned, and makes no step in the trace.
        self.assertEqual(self.advice(EXAMPLE, limit=4), ((3, 0, 0, 0, ()),))
        self.assertEqual(self.advice(EXAMPLE, limit=15), ((3, 0, 0, 0, ()),))
        self.assertEqual(self.advice(EXAMPLE, limit=16), ((3, 1, 0, 0, ()), (4, 0, 0, 0, ())))
        self.assertEqual(self.advice(EXAMPLE, limit=20), ((3, 1, 1, 1, (2,)), (4, 0, 0, 0, ())))
        for limit in (30, 31, 400, 500):
            self.assertEqual(self.advice(EXAMPLE, limit=limit), self.advice(EXAMPLE))

    def test_programs_that_spawn_nothing(self):
        self.assertEqual(self.advice(""), ())
        self.assertEqual(self.advice("var v = 1;\nprint v;"), ())
        self.assertEqual(self.advice("if (false) { ahead p(); } proc p() { }"), ())

    def test_tasks_that_are_dropped(self):
        self.assertEqual(self.advice("try {\nahead p();\n} catch (e) { }\nproc p() { throw 1; }"), ((2, 0, 0, 0, ()),))

    def test_many_tasks_of_one_line(self):
        # Four turns: the spawn of each turn has the line of the loop. The last task finds the end of the loop.
        found = self.advice("var last = 0;\nahead for (i = 1 to 4) {\nlast = last + i;\n}\nprint last;")
        (line, tasks, back, lost, blamed), = found
        self.assertEqual((line, tasks, back, blamed), (2, 4, 4, (3,)))
        rows = profile(trace(program_of("var last = 0;\nahead for (i = 1 to 4) {\nlast = last + i;\n}\nprint last;"), (), 400))
        self.assertEqual(lost, sum(row[5] for row in rows))

    def test_causes_in_several_lines(self):
        text = ("var v = 1;\nvar u = 1;\nproc s() {\nv = 2;\n}\nproc p() {\nu = 2; s();\n}\nahead p();\nprint 1;"
                " var w = u + v;\nw = u;\n")
        self.assertEqual(self.advice(text), ((9, 1, 0, 0, ()),))
        (line, tasks, back, lost, blamed), = self.advice(text.replace("print 1;", ""))
        # Each line once, in ascending order, though the reading of u comes first.
        self.assertEqual((line, tasks, back, blamed), (9, 1, 1, (4, 7)))

    def test_a_parameter_is_written_by_an_instruction_of_line_0(self):
        # Run early, the task behind the call in p reads the parameter before the caller has published it.
        text = "ahead q();\np(3);\nproc p(n) {\nahead q();\nprint n;\n}\nproc q() { }"
        rows = {row[0]: row for row in self.advice(text)}
        self.assertEqual(rows[4][4], (0,))

    def test_lines_ascend(self):
        text = "p();\nproc p() {\nahead q(); }\nproc q() { }\nahead p();\n\nahead q();"
        self.assertEqual([row[0] for row in self.advice(text)], [3, 5, 7])

    def test_against_the_trace(self):
        for text, inputs in WRITTEN + made(15, 2400) + races(40, 1200):
            with self.subTest(text=text):
                text = text.replace("; ", ";\n")
                program = program_of(text)
                entries = trace(program, inputs, 150)
                run = Serial(program, inputs)
                lines = []
                while len(lines) < len(entries):
                    lines.append(program.lines[run.local[0]])
                    serial_step(run)
                wanted = {}
                profiles = {row[0]: row for row in profile(entries)}
                for step, entry in enumerate(entries):
                    if entry[0] == "spawn":
                        row = wanted.setdefault(lines[step], [0, 0, 0, {}])
                        if entry[2] in profiles:
                            _, _, _, _, back, lost = profiles[entry[2]]
                            row[0] += 1
                            row[1] += 1 if back else 0
                            row[2] += lost
                            for at in back:
                                row[3][lines[taken_back(entries, at)[6]]] = True
                self.assertEqual(advice(program, inputs, 150), tuple(
                    (line, tasks, back, lost, tuple(sorted(blamed)))
                    for line, (tasks, back, lost, blamed) in sorted(wanted.items())
                ))

    def test_inputs(self):
        inputs = [integer(2), integer(5)]
        text = "var n = read();\nvar v = 0;\nahead p();\nprint v;\nproc p() { v = n; }"
        self.assertEqual(self.advice(text, inputs), ((3, 1, 1, 3, (5,)),))
        self.assertEqual(inputs, [integer(2), integer(5)])
        # What is read is 0 already.
        self.assertEqual(self.advice(text, (integer(0),)), ((3, 1, 0, 0, ()),))


if __name__ == "__main__":
    unittest.main()
