"""[p1], [p2]: leaving for call, loop and guard, and exceptions on their way."""

import unittest

from foretask.leaving import leave, thrown
from tests.support import FRAME, THING, TOP, TRUE, Case, integer, text_value

OTHER = ("object", (7,), 1)
CALL = ("call", 11, THING)
CUT = ("cut",)
GUARD = ("guard", 12, OTHER)
LOOP = ("loop", 13)
COUNT = ("count", 14, 3, 9)
EVERY = (CALL, CUT, GUARD, LOOP, COUNT)
FITTING = {"call": (CALL,), "loop": (LOOP, COUNT), "guard": (GUARD,)}
# Entries around the one that is looked for, among them others that would fit.
AROUND = (CUT, ("call", 21, TOP), ("loop", 22), ("guard", 23, TOP), ("count", 24, 1, 2), CUT)


class TestLeave(Case):
    def check(self, control, what, wanted):
        with self.subTest(control=control, what=what):
            self.assertEqual(leave(control, what), wanted)

    def test_innermost(self):
        for what, entries in FITTING.items():
            for entry in entries:
                self.check((entry,), what, (0, entry, ()))
                self.check((entry,) + AROUND, what, (0, entry, AROUND))

    def test_every_kind_of_entry_further_in(self):
        for what, entries in FITTING.items():
            for entry in entries:
                for inner in EVERY:
                    if inner not in entries:
                        self.check((inner, entry) + AROUND, what, (1 if inner == CUT else 0, entry, AROUND))

    def test_all_other_entries_further_in(self):
        for what, entries in FITTING.items():
            passed = tuple(entry for entry in EVERY if entry not in entries)
            for entry in entries:
                self.check(passed + (entry,) + AROUND, what, (1, entry, AROUND))
                self.check(passed * 3 + (entry,) + AROUND, what, (3, entry, AROUND))
                self.check((CUT,) + passed + (CUT, entry), what, (3, entry, ()))

    def test_cuts(self):
        for what, entries in FITTING.items():
            for entry in entries:
                for cuts in (0, 1, 2, 5):
                    self.check((CUT,) * cuts + (entry,), what, (cuts, entry, ()))
                    self.check((CUT,) * cuts + (entry, CUT, CUT), what, (cuts, entry, (CUT, CUT)))

    def test_the_innermost_of_several(self):
        self.check((CALL, ("call", 31, TOP)), "call", (0, CALL, (("call", 31, TOP),)))
        self.check((CUT, LOOP, COUNT), "loop", (1, LOOP, (COUNT,)))
        self.check((COUNT, LOOP), "loop", (0, COUNT, (LOOP,)))
        self.check((GUARD, ("guard", 31, TOP)), "guard", (0, GUARD, (("guard", 31, TOP),)))

    def test_loops_and_guards_beyond_a_call(self):
        # Nothing ends at a call: all entries further in are passed, whatever they are.
        self.check((CALL, LOOP), "loop", (0, LOOP, ()))
        self.check((CUT, CALL, CUT, GUARD), "guard", (2, GUARD, ()))

    def test_none_fits(self):
        for what, entries in FITTING.items():
            self.check((), what, (0, None, ()))
            others = tuple(entry for entry in EVERY if entry not in entries and entry != CUT)
            self.check(others, what, (0, None, ()))
            for cuts in (1, 2, 4):
                self.check((CUT,) * cuts, what, (cuts, None, ()))
                self.check(others + (CUT,) * cuts + others, what, (cuts, None, ()))


class TestThrown(Case):
    def check(self, control, value, wanted, operands=(integer(1), THING)):
        with self.subTest(control=control, value=value):
            self.assertEqual(thrown((5, operands, FRAME, TOP, control), value), wanted)

    def test_a_guard(self):
        for value in (text_value("kind"), integer(-3), ("none",), TRUE):
            self.check((GUARD,), value, ("quiet", (12, (value,), OTHER, TOP, ())))
            self.check((GUARD,) + AROUND, value, ("quiet", (12, (value,), OTHER, TOP, AROUND)))
        self.check((GUARD,), TRUE, ("quiet", (12, (TRUE,), OTHER, TOP, ())), operands=())

    def test_top_is_that_of_the_local_state(self):
        for top in (TOP, THING):
            self.assertEqual(thrown((5, (), FRAME, top, (GUARD,)), TRUE), ("quiet", (12, (TRUE,), OTHER, top, ())))

    def test_entries_without_cuts_further_in(self):
        after = (12, (TRUE,), OTHER, TOP, AROUND)
        for inner in (CALL, LOOP, COUNT):
            self.check((inner, GUARD) + AROUND, TRUE, ("quiet", after))
        self.check((CALL, LOOP, COUNT, CALL, GUARD) + AROUND, TRUE, ("quiet", after))

    def test_cuts_further_in(self):
        after = (12, (TRUE,), OTHER, TOP, AROUND)
        for cuts in (1, 2, 3):
            self.check((CUT,) * cuts + (GUARD,) + AROUND, TRUE, ("give_up", cuts, after))
            self.check((LOOP,) + (CUT, CALL) * cuts + (GUARD,) + AROUND, TRUE, ("give_up", cuts, after))

    def test_no_guard(self):
        for value in (text_value("index"), ("none",), integer(0)):
            for control in ((), (CALL,), (CUT,), (CUT, CUT, LOOP), (COUNT, CUT, CALL, CUT)):
                self.check(control, value, ("fail", value))


if __name__ == "__main__":
    unittest.main()
