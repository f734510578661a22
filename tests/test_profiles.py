"""[f1] to [f4] and [f7]: profiles, dependences, and traces without variables."""

import unittest

from foretask.back import taken_back
from foretask.moments import begins
from foretask.profiles import dependences, profile, without_variables
from tests.programs import WRITTEN, made, races
from tests.support import integer
from tests.test_moments import EXAMPLE, TOTAL, MomentsCase, entries_of


class TestProfiles(MomentsCase):
    def test_the_example(self):
        self.assertEqual(profile(entries_of(EXAMPLE)), (
            ((), 0, 15, 1, (), 0), ((0,), 15, 12, 1, (19,), 8), ((0, 0), 27, 3, 2, (27,), 3),
        ))

    def test_an_empty_trace(self):
        self.assertEqual(profile(()), ())
        self.assertEqual(profile(entries_of(EXAMPLE, limit=0)), ())

    def test_limits(self):
        self.assertEqual(profile(entries_of(EXAMPLE, limit=1)), (((), 0, 1, 0, (), 0),))
        self.assertEqual(profile(entries_of(EXAMPLE, limit=15)), (((), 0, 15, 1, (), 0),))
        self.assertEqual(profile(entries_of(EXAMPLE, limit=16))[1:], (((0,), 15, 1, 0, (), 0),))
        self.assertEqual(profile(entries_of(EXAMPLE, limit=20))[1:], (((0,), 15, 5, 0, (19,), 1),))

    def test_the_order_is_that_of_the_beginnings(self):
        # (1,), which is spawned later, begins before (0,).
        entries = entries_of("proc p() { ahead q(); q(); } proc q() { } ahead p(); print 1;")
        self.assertEqual([row[0] for row in profile(entries)], [(), (1,), (0,)])

    def test_several_steps_of_a_task(self):
        text = "var v = 1; var u = 1; ahead p(); print 1; var w = v; w = u; w = v; proc p() { v = 2; u = 2; }"
        self.assertEqual([row[4:] for row in profile(entries_of(text))], [((), 0), ((), 0)])
        entries = entries_of(text.replace("print 1;", "w = 5;"))
        begin = begins(entries, (0,))
        back = tuple(step for step in range(begin, len(entries)) if entries[step][0] == "read")
        # When the first reading is right, the last one, of the same variable, is right too.
        self.assertEqual(len(back), 3)
        back = back[:2]
        self.assertLess(begin, back[0])
        self.assertEqual(profile(entries)[1], ((0,), begin, len(entries) - begin, 1, back, len(entries) - back[0]))

    def test_every_kind_of_waiting(self):
        text = "print 1; var v = read(); try { ahead p(); } catch (e) { } throw 3; proc p() { throw 2; }"
        (_, begin, steps, waits, back, lost), = profile(entries_of(text))
        # print, read, giving up (0,), and failing.
        self.assertEqual((begin, waits, back, lost), (0, 4, (), 0))
        self.assertEqual(steps, len(entries_of(text)))
        self.assertEqual([row[3] for row in profile(entries_of("ahead p(); proc p() { }"))], [1, 1])

    def test_what_holds(self):
        lost = 0
        for text, inputs in WRITTEN + made(10, 2300) + races(40, 800):
            with self.subTest(text=text):
                entries = entries_of(text, inputs, 150)
                rows = profile(entries)
                self.assertEqual(sum(row[2] for row in rows), len(entries))
                self.assertEqual([row[1] for row in rows], sorted(row[1] for row in rows))
                back = []
                for task, begin, steps, waits, found, wasted in rows:
                    own = [step for step, entry in enumerate(entries) if entry[1] == task]
                    self.assertEqual((own[0], len(own)), (begin, steps))
                    self.assertEqual(waits, len([step for step in own if entries[step][0] == "wait"]))
                    self.assertTrue(all(step in own for step in found))
                    self.assertEqual(wasted, len([step for step in own if step >= found[0]]) if found else 0)
                    self.assertEqual(wasted == 0, found == ())
                    back += found
                    lost += wasted
                self.assertEqual(back, [step for step in range(len(entries)) if taken_back(entries, step) is not None])
        self.assertGreater(lost, 200)


class TestDependences(MomentsCase):
    def test_the_example(self):
        self.assertEqual(dependences(entries_of(EXAMPLE)), ((10, 19), (22, 27)))
        self.assertEqual(dependences(entries_of(EXAMPLE, limit=19)), ())
        self.assertEqual(dependences(entries_of(EXAMPLE, limit=20)), ((10, 19),))
        self.assertEqual(dependences(()), ())

    def test_one_cause_of_several_steps(self):
        entries = entries_of("var v = 1; var w = 0; ahead p(); ahead q(); w = v; proc p() { v = 2; } proc q() { var u = v; }")
        cause = [step for step, entry in enumerate(entries) if entry == ("write", (), TOTAL, integer(2))][0]
        reads = [step for step, entry in enumerate(entries) if entry[0] == "read" and entry[2] == TOTAL]
        self.assertEqual(dependences(entries), ((cause, reads[0]), (cause, reads[1])))
        self.assertEqual([entries[step][1] for step in reads], [(0,), (0, 0)])

    def test_what_holds(self):
        for text, inputs in races(40, 900):
            with self.subTest(text=text):
                entries = entries_of(text, inputs, 200)
                rows = dependences(entries)
                wanted = [taken_back(entries, step) for step in range(len(entries))]
                self.assertEqual(rows, tuple((told[6], step) for step, told in enumerate(wanted) if told is not None))
                for cause, step in rows:
                    self.assertLess(cause, step)
                    written, read = entries[cause], entries[step]
                    self.assertEqual((written[0], read[0]), ("write", "read"))
                    self.assertEqual(written[2:], read[2:])
                    self.assertNotEqual(written[1], read[1])


class TestWithoutVariables(MomentsCase):
    def test_the_example(self):
        entries = entries_of(EXAMPLE)
        bare = without_variables(entries, [0])
        self.assertIsInstance(bare, tuple)
        self.assertEqual(len(bare), 30)
        for step in range(30):
            if step in (2, 7, 10, 19, 22, 27):
                self.assertEqual(entries[step][2], TOTAL)
                self.assertEqual(bare[step], ("other", entries[step][1]))
            else:
                self.assertEqual(bare[step], entries[step])
        self.assertEqual([row[4] for row in profile(bare)], [(), (), ()])
        self.assertEqual([row[:4] for row in profile(bare)], [row[:4] for row in profile(entries)])
        self.assertEqual(dependences(bare), ())

    def test_numbers(self):
        entries = entries_of("var v = 1; var u = 1; ahead p(); var w = v; w = u; proc p() { v = 2; u = 2; }")
        self.assertEqual(without_variables(entries, ()), entries)
        # There is no variable with these numbers.
        self.assertEqual(without_variables(entries, [3, 40, 10 ** 30]), entries)
        for numbers in ([0], (0,), [1], [0, 1], (1, 0), [0, 0], (2, 9)):
            bare = without_variables(entries, numbers)
            for old, new in zip(entries, bare):
                hidden = old[0] in ("read", "write") and old[2] in [((), 0, number) for number in numbers]
                self.assertEqual(new, ("other", old[1]) if hidden else old)
        self.assertEqual([len(row[4]) for row in profile(without_variables(entries, [0]))], [0, 1])
        self.assertEqual([len(row[4]) for row in profile(without_variables(entries, [0, 1]))], [0, 0])

    def test_the_same_cells_of_other_objects_stay(self):
        # Cell 0 of an array, of a frame, and of a frame of another task; the same task's other objects.
        entries = entries_of("var a = array(1); ahead p(7); p(8); a[0] = size(a); proc p(n) { var m = n; }")
        bare = without_variables(entries, [0, 1])
        for old, new in zip(entries, bare):
            if old[0] in ("read", "write") and old[2] != TOTAL:
                self.assertEqual(new, old)
        self.assertNotEqual(bare, entries)

    def test_arguments_are_not_changed(self):
        entries = entries_of(EXAMPLE)
        numbers = [0, 5]
        without_variables(entries, numbers)
        self.assertEqual((numbers, entries), ([0, 5], entries_of(EXAMPLE)))

    def test_the_other_steps_can_be_taken_back_at_most(self):
        # A link that is gone can't keep what comes behind it from being too early.
        text = "var v = 1; var u = 1; ahead p(); var w = v; var x = u; proc p() { u = 2; v = 2; u = 2; }"
        entries = entries_of(text)
        place = ((), 0, 1)
        step = [at for at, entry in enumerate(entries) if entry[:3] == ("read", (0,), place)][0]
        self.assertIsNone(taken_back(entries, step))
        self.assertIsNotNone(taken_back(without_variables(entries, [0]), step))


if __name__ == "__main__":
    unittest.main()
