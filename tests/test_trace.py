"""[s1]: the trace of a sequential run."""

import unittest

from foretask.serial import Serial, next_action, serial_step, value_of
from foretask.trace import trace
from tests.programs import WRITTEN, made
from tests.support import NONE, Case, integer, program_of, text_value

V = ((), 0, 0)
W = ((), 0, 1)


class TraceCase(Case):
    def trace(self, text, inputs=(), limit=400):
        return trace(program_of(text), inputs, limit)

    def kinds(self, entries):
        return [entry[0] for entry in entries]


class TestEntries(TraceCase):
    def test_every_kind(self):
        text = "var v = 3; ahead p(v); v = v + 1; print v; proc p(n) { v = n; }"
        one, other = ("other", ()), ("other", (0,))
        frame = ((), 1, 0)
        self.assertEqual(self.trace(text), (
            one, one, ("write", (), V, integer(3)),
            # The call: spawn, load, call, store, load, store, push, return, drop, finish.
            ("spawn", (), (0,)), ("read", (), V, integer(3)), one, ("write", (), frame, integer(3)),
            ("read", (), frame, integer(3)), ("write", (), V, integer(3)), one, one, one, ("wait", ()),
            ("read", (0,), V, integer(3)), other, other, ("write", (0,), V, integer(4)),
            ("read", (0,), V, integer(4)), ("wait", (0,)), ("wait", (0,)),
        ))

    def test_a_read_of_a_place_that_the_task_has_written(self):
        entries = self.trace("var v = 1; var w = v; v = 2; w = v;")
        reads = [entry for entry in entries if entry[0] == "read"]
        self.assertEqual(reads, [("read", (), V, integer(1)), ("read", (), V, integer(2))])

    def test_a_read_of_a_place_that_was_never_written(self):
        self.assertIn(("read", (), W, NONE), self.trace("var v = w; var w = 1;"))

    def test_writes_of_none(self):
        entries = self.trace("var v = none; v = 1; v = none; print v;")
        writes = [entry for entry in entries if entry[0] in ("write", "read")]
        self.assertEqual(writes, [("write", (), V, NONE), ("write", (), V, integer(1)), ("write", (), V, NONE),
                                  ("read", (), V, NONE)])

    def test_cells_of_objects(self):
        thing = ("object", (), 1)
        entries = self.trace("record r(a); var v = new r(); v.a = 5; print v.a;")
        self.assertEqual(entries, (
            ("other", ()), ("other", ()), ("write", (), ((), 1, 0), text_value("r")), ("write", (), V, thing),
            ("read", (), V, thing), ("read", (), ((), 1, 0), text_value("r")), ("other", ()), ("write", (), ((), 1, 1), integer(5)),
            ("read", (), V, thing), ("read", (), ((), 1, 0), text_value("r")), ("read", (), ((), 1, 1), integer(5)), ("wait", ()),
            ("wait", ()),
        ))
        entries = self.trace("var v = size(array(2));")
        self.assertEqual(entries[4:7], (("write", (), ((), 1, 0), integer(2)), ("read", (), ((), 1, 0), integer(2)), ("other", ())))

    def test_input_and_output(self):
        entries = self.trace("var v = read(); print v;", [integer(4)])
        self.assertEqual(entries, (("other", ()), ("wait", ()), ("write", (), V, integer(4)), ("read", (), V, integer(4)),
                                   ("wait", ()), ("wait", ())))

    def test_give_up(self):
        text = "try { ahead p(); } catch (e) { } proc p() { throw 1; }"
        entries = self.trace(text)
        # enter, guard, spawn, call, push, throw.
        self.assertEqual(entries[:7], (("other", ()), ("other", ()), ("spawn", (), (0,)), ("other", ()), ("other", ()), ("wait", ()),
                                       ("write", (), V, integer(1))))
        # Without a cut the same instruction is quiet.
        self.assertNotIn(("wait", ()), self.trace(text.replace("ahead ", ""))[:-1])

    def test_stop_and_fail(self):
        entries = self.trace("ahead p(); ahead p(); proc p() { }")
        waits = [entry for entry in entries if entry[0] == "wait"]
        self.assertEqual(waits, [("wait", ()), ("wait", (0,)), ("wait", (0, 0))])
        self.assertEqual(self.trace("throw 1;"), (("other", ()), ("other", ()), ("wait", ())))
        self.assertEqual(self.trace("print 1 / 0;")[-1], ("wait", ()))

    def test_spawned_tasks(self):
        entries = self.trace("proc p() { ahead q(); } proc q() { } ahead p(); ahead p();")
        spawns = [entry for entry in entries if entry[0] == "spawn"]
        self.assertEqual(spawns, [("spawn", (), (0,)), ("spawn", (), (1,)), ("spawn", (0,), (0, 0)), ("spawn", (0,), (0, 1))])

    def test_making_objects_and_quiet_steps(self):
        self.assertEqual(self.kinds(self.trace("proc p() { } p(); var v = -1 + 2;")),
                         ["other"] * 9 + ["write", "wait"])


class TestLimits(TraceCase):
    TEXT = "var v = 1; ahead p(); print v; proc p() { v = 2; }"

    def test_limits(self):
        program = program_of(self.TEXT)
        whole = trace(program, (), 400)
        run = Serial(program, ())
        while serial_step(run):
            pass
        self.assertEqual(len(whole), run.moment)
        self.assertEqual(trace(program, (), 0), ())
        for limit in range(run.moment + 1):
            self.assertEqual(trace(program, (), limit), whole[:limit])
        for limit in (run.moment + 1, 200, 399):
            self.assertEqual(trace(program, (), limit), whole)

    def test_a_run_without_end(self):
        program = program_of("while (true) { }")
        for limit in (0, 1, 399, 400):
            self.assertEqual(len(trace(program, (), limit)), limit)

    def test_kinds(self):
        entries = self.trace(self.TEXT)
        self.assertIsInstance(entries, tuple)
        for entry in entries:
            self.assertIsInstance(entry, tuple)

    def test_inputs_are_not_changed(self):
        inputs = [integer(1), integer(2)]
        self.trace("var v = read();", inputs)
        self.assertEqual(inputs, [integer(1), integer(2)])


class TestManyTraces(TraceCase):
    def test_against_the_sequential_run(self):
        for text, inputs in WRITTEN + made(40, 3000):
            with self.subTest(text=text):
                program = program_of(text)
                entries = trace(program, inputs, 400)
                run = Serial(program, inputs)
                for entry in entries:
                    told = next_action(run)
                    kind = told[0]
                    self.assertEqual(entry[1], run.task)
                    value = value_of(run.memory, told[1]) if kind == "read" else None
                    before = len(run.behind)
                    serial_step(run)
                    if kind == "read":
                        self.assertEqual((entry[0], entry[2:]), ("read", (told[1], value)))
                    elif kind == "write":
                        self.assertEqual((entry[0], entry[2:]), ("write", told[1:3]))
                        self.assertEqual(value_of(run.memory, entry[2]), entry[3])
                    elif kind == "spawn":
                        self.assertEqual(len(run.behind), before + 1)
                        self.assertEqual((entry[0], entry[2:]), ("spawn", (run.behind[0][0],)))
                    elif kind in ("quiet", "make"):
                        self.assertEqual((entry[0], entry[2:]), ("other", ()))
                    else:
                        self.assertEqual((entry[0], entry[2:]), ("wait", ()))
                self.assertTrue(len(entries) == 400 or run.ended is not None)


if __name__ == "__main__":
    unittest.main()
