"""[s8]: which steps can be taken back, at which moment, and because of which write."""

import unittest

from foretask.back import taken_back
from foretask.moments import allowed, begins, place_at, reads_of_others
from foretask.profiles import without_variables
from tests.plain import Plain
from tests.programs import WRITTEN, made, races
from tests.support import NONE, integer, text_value
from tests.test_moments import EXAMPLE, TOTAL, MomentsCase, entries_of


class TestTakenBack(MomentsCase):
    def back(self, entries):
        return [step for step in range(len(entries)) if taken_back(entries, step) is not None]

    def test_the_example(self):
        entries = entries_of(EXAMPLE)
        self.assertEqual(self.back(entries), [19, 27])
        self.assertEqual(taken_back(entries, 19), ((0,), 4, TOTAL, integer(1), 4, integer(0), 10))
        self.assertEqual(taken_back(entries, 27), ((0, 0), 0, TOTAL, integer(3), 4, integer(0), 22))
        # Steps of every kind that can't: quiet, writing, spawning, waiting, reading what the task has written.
        for step in (0, 2, 3, 14, 7, 20, 29):
            self.assertIsNone(taken_back(entries, step))

    def test_nothing_is_taken_back_of_the_task_with_which_a_program_begins(self):
        entries = entries_of("var v = 1; var w = v; var u = x; var x = 2;")
        reads = [step for step, entry in enumerate(entries) if entry[0] == "read"]
        self.assertTrue(reads_of_others(entries, reads[1]))
        self.assertEqual(self.back(entries), [])

    def test_a_value_that_was_there_all_the_time(self):
        # Nobody writes the variable between the spawn and the reading.
        entries = entries_of("var v = 1; ahead p(); var w = v; proc p() { print 2; }")
        self.assertEqual(self.back(entries), [])
        # It is written, but with the value that it has.
        entries = entries_of("var v = 1; ahead p(); var w = v; proc p() { v = 1; }")
        self.assertEqual(self.back(entries), [])

    def test_a_value_that_goes_and_comes_back(self):
        entries = entries_of("var v = 1; ahead p(); var w = v; proc p() { v = 2; v = 1; }")
        read = begins(entries, (0,))
        writes = [step for step, entry in enumerate(entries) if entry[0] == "write" and entry[2] == TOTAL]
        # The moment of the fault is just behind the write of the other value; the cause is the last write.
        self.assertEqual(taken_back(entries, read), ((0,), 0, TOTAL, integer(1), writes[1] + 1, integer(2), writes[2]))

    def test_values_of_every_kind(self):
        for value, told in (("none", NONE), ("true", ("bool", True)), ("\"1\"", text_value("1")), ("2", integer(2)),
                            ("array(0)", ("object", (), 2))):
            entries = entries_of(f"var v = 1; ahead p(); var w = v; proc p() {{ v = {value}; }}")
            with self.subTest(value=value):
                read = begins(entries, (0,))
                found = taken_back(entries, read)
                self.assertEqual((found[3], found[5]), (told, integer(1)))

    def test_what_waits_before_holds_a_task_up(self):
        # The task waits with its output until its turn comes; then it reads no more before its turn.
        entries = entries_of("var v = 1; ahead p(); print 0; var w = v; proc p() { v = 2; }")
        self.assertEqual(self.back(entries), [])
        entries = entries_of("var v = 1; ahead p(); var w = v; print 0; w = v; proc p() { v = 2; }")
        self.assertEqual(self.back(entries), [begins(entries, (0,))])

    def test_an_earlier_reading_that_is_right_late_alone(self):
        # The second variable is read behind the first one, whose value is right from the second write on.
        text = "var v = 1; var u = 1; ahead p(); var w = v; var x = u; proc p() { u = 2; v = 2; u = 3; }"
        entries = entries_of(text)
        place = ((), 0, 1)
        step = [at for at, entry in enumerate(entries) if entry[:2] == ("read", (0,)) and entry[2] == place][0]
        right = [at for at, entry in enumerate(entries) if entry[0] == "write" and entry[3] == integer(2)][1] + 1
        self.assertEqual(entries[right - 1][2], TOTAL)
        found = taken_back(entries, step)
        # Before that moment the variable u held 1, but no run that reads it then is right up to there.
        self.assertEqual((found[4], found[5], found[3]), (right, integer(2), integer(3)))
        # If v gets its value behind the last write of u, u is read right.
        entries = entries_of(text.replace("v = 2; u = 3;", "u = 3; v = 2;"))
        self.assertEqual([entries[step][2] for step in self.back(entries)], [TOTAL])

    def test_moments_at_which_the_spawner_runs(self):
        # The value differs only while the spawner makes its first steps, when what it spawns next is not yet there.
        text = "var v = 1; ahead r(); v = 2; v = 1; ahead r(); var w = v; proc r() { }"
        self.assertEqual(self.back(entries_of(text)), [])
        # What it spawns may be there before, if the spawner has run before its turn too.
        text = "var v = 0; ahead r(); v = 5; ahead r(); var w = v; proc r() { }"
        entries = entries_of(text)
        step = begins(entries, (0, 0))
        found = taken_back(entries, step)
        spawn = [at for at, entry in enumerate(entries) if entry[0] == "spawn"][0]
        self.assertEqual(found, ((0, 0), 0, TOTAL, integer(5), spawn + 1, integer(0), found[6]))
        self.assertEqual(entries[found[6]], ("write", (0,), TOTAL, integer(5)))

    def test_limits(self):
        # The trace ends before or behind what is read.
        self.assertEqual(self.back(entries_of(EXAMPLE, limit=19)), [])
        self.assertEqual(self.back(entries_of(EXAMPLE, limit=20)), [19])
        self.assertEqual(self.back(()), [])

    def test_no_such_step(self):
        self.no_such_step(taken_back, entries_of(EXAMPLE))
        self.no_such_step(taken_back, ())


class TestManyPrograms(MomentsCase):
    def test_against_the_definitions(self):
        for text, inputs in WRITTEN[:6] + made(3, 2100) + races(25, 400):
            with self.subTest(text=text):
                entries = entries_of(text, inputs, 100)
                plain = Plain(entries)
                self.assertEqual([taken_back(entries, step) for step in range(len(entries))],
                                 [plain.taken_back(step) for step in range(len(entries))])

    def test_parts(self):
        count = 0
        for text, inputs in races(40, 500):
            entries = entries_of(text, inputs, 150)
            for kept in (entries, without_variables(entries, [1])):
                for step in range(len(kept)):
                    told = taken_back(kept, step)
                    if told is None:
                        continue
                    count += 1
                    task, steps, place, value, moment, seen, cause = told
                    self.assertEqual(kept[step], ("read", task, place, value))
                    self.assertEqual(steps, step - begins(kept, task))
                    self.assertIn(moment, allowed(kept, task))
                    self.assertEqual(place_at(kept, place, moment), seen)
                    self.assertNotEqual(seen, value)
                    self.assertEqual((kept[cause][0], kept[cause][2:]), ("write", (place, value)))
                    self.assertNotEqual(kept[cause][1], task)
                    self.assertTrue(moment <= cause < begins(kept, task))
        self.assertGreater(count, 50)


if __name__ == "__main__":
    unittest.main()
