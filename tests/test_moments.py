"""[s2] to [s7]: values at moments, beginnings, readings, allowed moments, links and their least moments."""

import unittest

from foretask.errors import NoSuchStep
from foretask.moments import allowed, begins, links, place_at, reads_of_others, spawned_at
from foretask.profiles import without_variables
from foretask.trace import trace
from tests.plain import Plain
from tests.programs import WRITTEN, made, races
from tests.support import NONE, Case, integer, program_of, text_value

# The example of the document. Its tasks make the steps 0 to 14, 15 to 26 and 27 to 29.
EXAMPLE = "var total = 0;\nproc add(n) { total = total + n; }\nahead add(1);\nahead add(2);\nprint total;\n"
TOTAL = ((), 0, 0)


def entries_of(text, inputs=(), limit=400):
    return trace(program_of(text), inputs, limit)


def all_tasks(entries):
    """Returns the tasks that make a step or are spawned, in the order in which they come."""
    found = {}
    for entry in entries:
        found[entry[1]] = True
        if entry[0] == "spawn":
            found[entry[2]] = True
    return list(found)


class MomentsCase(Case):
    def no_such_step(self, function, entries):
        """[c17] and the interface: the steps behind the last entry, the first of them among them."""
        for step in (len(entries), len(entries) + 1, len(entries) + 400, 10 ** 30):
            with self.subTest(function=function.__name__, step=step):
                with self.assertRaises(NoSuchStep) as caught:
                    function(entries, step)
                self.assertEqual(caught.exception.number, step)
        if entries:
            function(entries, 0)
            function(entries, len(entries) - 1)


class TestValues(MomentsCase):
    def test_the_example(self):
        entries = entries_of(EXAMPLE)
        wanted = [NONE] * 3 + [integer(0)] * 8 + [integer(1)] * 12 + [integer(3)] * 8
        self.assertEqual([place_at(entries, TOTAL, moment) for moment in range(31)], wanted)
        self.assertEqual(len(entries), 30)
        parameter = ((), 1, 0)
        self.assertEqual([place_at(entries, parameter, moment) for moment in (0, 6, 7, 30)],
                         [NONE, NONE, integer(1), integer(1)])

    def test_the_step_before_counts_and_the_step_at_the_moment_does_not(self):
        entries = entries_of("var v = 1; v = 2; v = none; v = \"a\";")
        writes = [step for step, entry in enumerate(entries) if entry[0] == "write"]
        for step, value in zip(writes, (integer(1), integer(2), NONE, text_value("a"))):
            self.assertEqual(place_at(entries, TOTAL, step + 1), value)
        self.assertEqual(place_at(entries, TOTAL, writes[0]), NONE)
        self.assertEqual(place_at(entries, TOTAL, writes[3]), NONE)
        self.assertEqual(place_at(entries, TOTAL, writes[2]), integer(2))

    def test_places_that_nobody_writes(self):
        entries = entries_of(EXAMPLE)
        for place in (((), 0, 1), ((), 7, 0), ((0, 0), 0, 0), ((5,), 0, 0)):
            for moment in (0, 15, 30):
                self.assertEqual(place_at(entries, place, moment), NONE)

    def test_an_empty_trace(self):
        self.assertEqual(place_at((), TOTAL, 0), NONE)

    def test_the_other_writers_of_the_same_cell(self):
        # The same cell of another object, the same object of another task.
        entries = (("write", (), ((), 0, 1), integer(1)), ("write", (), ((), 1, 1), integer(2)),
                   ("write", (), ((0,), 0, 1), integer(3)), ("write", (), ((), 0, 2), integer(4)))
        self.assertEqual(place_at(entries, ((), 0, 1), 4), integer(1))
        self.assertEqual(place_at(entries, ((0,), 0, 1), 4), integer(3))


class TestBeginnings(MomentsCase):
    def test_the_example(self):
        entries = entries_of(EXAMPLE)
        self.assertEqual([begins(entries, task) for task in ((), (0,), (0, 0))], [0, 15, 27])
        self.assertEqual([spawned_at(entries, task) for task in ((), (0,), (0, 0))], [30, 3, 15])

    def test_tasks_that_make_no_step(self):
        entries = entries_of(EXAMPLE)
        for task in ((1,), (0, 1), (0, 0, 0), (7, 7)):
            self.assertEqual((begins(entries, task), spawned_at(entries, task)), (30, 30))
        # The task is spawned, and dropped before its turn.
        entries = entries_of("try { ahead p(); } catch (e) { } print 1; proc p() { throw 1; }")
        self.assertEqual((begins(entries, (0,)), spawned_at(entries, (0,))), (len(entries), 2))
        # The trace ends between the spawn and the first step.
        entries = entries_of(EXAMPLE, limit=15)
        self.assertEqual((begins(entries, (0,)), spawned_at(entries, (0,))), (15, 3))
        entries = entries_of(EXAMPLE, limit=16)
        self.assertEqual((begins(entries, (0,)), spawned_at(entries, (0, 0)), begins(entries, (0, 0))), (15, 15, 16))
        entries = entries_of(EXAMPLE, limit=3)
        self.assertEqual((begins(entries, (0,)), spawned_at(entries, (0,))), (3, 3))

    def test_an_empty_trace(self):
        self.assertEqual((begins((), ()), spawned_at((), ()), spawned_at((), (0,))), (0, 0, 0))


class TestReadsOfOthers(MomentsCase):
    def others(self, entries):
        return [step for step in range(len(entries)) if reads_of_others(entries, step)]

    def test_the_example(self):
        entries = entries_of(EXAMPLE)
        self.assertEqual(self.others(entries), [19, 27])
        self.assertEqual([step for step, entry in enumerate(entries) if entry[0] == "read"], [7, 8, 19, 20, 27])
        self.assertIs(reads_of_others(entries, 19), True)
        for step in (3, 7, 10, 14, 16):
            self.assertIs(reads_of_others(entries, step), False)

    def test_only_earlier_writes_of_the_same_task_and_place(self):
        place, other = ((), 0, 0), ((), 0, 1)
        entries = (
            ("read", (), place, NONE), ("write", (), other, integer(1)), ("read", (), place, NONE),
            ("write", (0,), place, integer(2)), ("read", (), place, integer(2)), ("write", (), place, NONE),
            ("read", (), place, NONE), ("read", (0, 0), place, NONE), ("read", (0,), place, NONE), ("read", (0,), other, integer(1)),
        )
        self.assertEqual(self.others(entries), [0, 2, 4, 7, 9])

    def test_no_such_step(self):
        self.no_such_step(reads_of_others, entries_of(EXAMPLE))
        self.no_such_step(reads_of_others, ())


class TestAllowed(MomentsCase):
    def test_the_example(self):
        entries = entries_of(EXAMPLE)
        self.assertEqual(allowed(entries, ()), ())
        # Behind the step 3, in which it is spawned, and before the step 15, in which it begins.
        self.assertEqual(allowed(entries, (0,)), tuple(range(4, 15)))
        # Its spawner runs before its turn up to there, or has spawned it when its turn has come.
        self.assertEqual(allowed(entries, (0, 0)), tuple(range(4, 15)) + tuple(range(16, 27)))

    def test_tasks_that_make_no_step(self):
        entries = entries_of(EXAMPLE, limit=10)
        self.assertEqual(allowed(entries, (0,)), tuple(range(4, 10)))
        # Nobody has spawned these.
        self.assertEqual(allowed(entries, (1,)), ())
        self.assertEqual(allowed(entries, (0, 0)), (4, 5, 6, 7, 8, 9))
        self.assertEqual(allowed(entries, (1, 0)), ())
        entries = entries_of(EXAMPLE, limit=20)
        self.assertEqual(allowed(entries, (0, 1)), tuple(range(4, 15)))
        self.assertEqual(allowed(entries, (0, 0)), tuple(range(4, 15)) + (16, 17, 18, 19))

    def test_the_least_and_the_empty_traces(self):
        self.assertEqual(allowed((), ()), ())
        self.assertEqual(allowed((), (0,)), ())
        self.assertEqual(allowed(entries_of(EXAMPLE, limit=1), (0,)), ())
        self.assertEqual(allowed(entries_of(EXAMPLE, limit=4), (0,)), ())
        self.assertEqual(allowed(entries_of(EXAMPLE, limit=5), (0,)), (4,))

    def test_two_children_of_one_task(self):
        # p spawns (0,) and (1,): (1,) runs first.
        text = "proc p() { ahead q(); q(); } proc q() { } ahead p(); print 1;"
        entries = entries_of(text)
        self.assertLess(spawned_at(entries, (0,)), spawned_at(entries, (1,)))
        self.assertLess(begins(entries, (1,)), begins(entries, (0,)))
        self.assertLess(begins(entries, (0,)), len(entries))
        self.assertEqual(allowed(entries, (0,)), tuple(range(spawned_at(entries, (0,)) + 1, begins(entries, (0,)))))
        self.assertEqual(allowed(entries, (1,)), tuple(range(spawned_at(entries, (1,)) + 1, begins(entries, (1,)))))


class TestLinks(MomentsCase):
    def test_the_example(self):
        entries = entries_of(EXAMPLE)
        self.assertEqual(links(entries, 0), ())
        # What the task () reads before the spawn of (0,) is in its line; waiting and reading behind it are not.
        self.assertEqual(links(entries, 14), ())
        self.assertEqual(links(entries, 19), ())
        # The reading 19 finds the value 1 from the moment 11 on.
        self.assertEqual(links(entries, 20), ((11, 19),))
        self.assertEqual(links(entries, 26), ((11, 19),))
        # The task (0, 0) is spawned before its spawner reads.
        self.assertEqual(links(entries, 27), ())
        # The reading 27 finds the value 3 from the moment 23 on.
        self.assertEqual(links(entries, 28), ((23, 27),))
        self.assertEqual(links(entries, 29), ((23, 27), (28, 28)))

    def test_the_line_of_a_task(self):
        text = "var a = 1; print a; ahead p(a); var c = a; print c; proc p(n) { var b = a; print b; }"
        entries = entries_of(text)
        first, second = [step for step, entry in enumerate(entries) if entry == ("wait", ())][:2]
        begin = begins(entries, (0,))
        self.assertLess(first, spawned_at(entries, (0,)))
        self.assertLess(spawned_at(entries, (0,)), second)
        # Its own readings are not of others; what it reads is its own, so it has the waiting alone as a link.
        self.assertEqual(links(entries, second), ((first, first),))
        self.assertEqual(links(entries, begin), ((first, first),))
        # The task (0,) reads the variable as soon as it is spawned.
        self.assertEqual(entries[begin][:3], ("read", (0,), TOTAL))
        self.assertEqual(links(entries, begin + 1), ((first, first), (spawned_at(entries, (0,)) + 1, begin)))

    def test_least_moments_never_fall(self):
        for text, inputs in races(30):
            entries = entries_of(text, inputs)
            if not entries:
                continue
            for step in range(0, len(entries), 7):
                rows = links(entries, step)
                self.assertEqual(sorted(rows), list(rows))
                for moment, link in rows:
                    self.assertLessEqual(moment, link)
                    self.assertLess(link, step)

    def test_no_such_step(self):
        self.no_such_step(links, entries_of(EXAMPLE))
        self.no_such_step(links, ())


class TestAgainstTheDefinitions(MomentsCase):
    """The functions against the sentences of the document, written down a second time."""

    def compare(self, entries):
        plain = Plain(entries)
        places = {}
        for entry in entries:
            if entry[0] in ("read", "write"):
                places[entry[2]] = True
        for place in list(places)[:4]:
            self.assertEqual([place_at(entries, place, moment) for moment in range(len(entries) + 1)],
                             [plain.value(place, moment) for moment in range(len(entries) + 1)])
        for task in all_tasks(entries) + [(), (0, 0, 0), (9,)]:
            self.assertEqual(begins(entries, task), plain.begins(task))
            self.assertEqual(spawned_at(entries, task), plain.spawned(task))
            self.assertEqual(allowed(entries, task), plain.allowed(task))
        for step in range(len(entries)):
            self.assertIs(reads_of_others(entries, step), plain.others(step))
        for step in list(range(0, len(entries), 9)) + list(range(len(entries)))[-1:]:
            self.assertEqual(links(entries, step), plain.links(step))

    def test_many_programs(self):
        for text, inputs in WRITTEN[:6] + made(4, 2000) + races(25, 100):
            with self.subTest(text=text):
                self.compare(entries_of(text, inputs, 120))

    def test_without_variables(self):
        for text, inputs in races(10, 300):
            with self.subTest(text=text):
                self.compare(without_variables(entries_of(text, inputs, 120), (0,)))


if __name__ == "__main__":
    unittest.main()
