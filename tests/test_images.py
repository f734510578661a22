"""[i1] to [i5]: images of machines, machines from images, and rows that are no image."""

import random
import unittest

from foretask.errors import BadImage
from foretask.images import restore
from foretask.machine import Machine
from foretask.numbers import image
from tests.programs import WRITTEN, made, races
from tests.support import FALSE, NONE, TOP, TRUE, Case, integer, program_of, text_value

FIELDS = ("program", "tasks", "steps", "memory", "out", "left", "task", "local", "made", "spawned", "behind", "ended",
          "moment", "work", "vain")
CHARACTERS = [10] + [number for number in range(32, 127) if number != 37]


class Roles:
    """The image of a machine, made a second time by the words of [i2] and [i3], with what each number is."""

    def __init__(self):
        self.row = []

    def put(self, role, number):
        self.row.append((number, role))

    def list(self, things, put, role="count"):
        self.put(role, len(things))
        for thing in things:
            put(thing)

    def plain(self, number):
        self.put("plain", number)

    def task(self, name):
        self.list(name, self.plain)

    def object(self, thing):
        self.task(thing[1])
        self.plain(thing[2])

    def place(self, place):
        self.task(place[0])
        self.plain(place[1])
        self.plain(place[2])

    def value(self, value):
        kind = ["none", "bool", "int", "text", "object"].index(value[0])
        self.put("kind", kind)
        if kind == 1:
            self.put("bool", int(value[1]))
        if kind == 2:
            self.put("integer", value[1])
        if kind == 3:
            self.list(value[1], lambda character: self.put("character", ord(character)), "characters")
        if kind == 4:
            self.object(value)

    def pair(self, pair):
        self.place(pair[0])
        self.value(pair[1])

    def entry(self, entry):
        kind = ["call", "cut", "guard", "loop", "count"].index(entry[0])
        self.put("kind", kind)
        if kind != 1:
            self.plain(entry[1])
        if kind in (0, 2):
            self.object(entry[2])
        if kind == 4:
            self.put("free", entry[2])
            self.put("free", entry[3])

    def local(self, local):
        self.plain(local[0])
        self.list(local[1], self.value)
        self.object(local[2])
        self.object(local[3])
        self.list(local[4], self.entry)

    def run(self, run):
        self.local(run[0])
        self.list(run[1], self.pair)
        for number in run[2:]:
            self.plain(number)

    def reading(self, reading):
        self.place(reading[0])
        self.value(reading[1])
        self.run(reading[2])

    def behind(self, task):
        self.task(task[0])
        self.local(task[1])
        self.run(task[2])
        self.list(task[3], self.reading)

    def machine(self, machine):
        self.list(sorted(machine.memory.items()), self.pair)
        self.list(machine.out, self.value)
        self.list(machine.left, self.value)
        self.task(machine.task)
        self.local(machine.local)
        self.plain(machine.made)
        self.plain(machine.spawned)
        self.list(machine.behind, self.behind)
        self.put("end", [None, "done", "failed"].index(machine.ended and machine.ended[0]))
        if machine.ended and machine.ended[0] == "failed":
            self.value(machine.ended[1])
        for number in (machine.moment, machine.work, machine.vain):
            self.plain(number)
        return self.row


class ImageCase(Case):
    program = program_of("print 1;")

    def machine(self, text="", inputs=(), tasks=500, steps=500):
        return Machine(program_of(text), inputs, tasks=tasks, steps=steps)

    def fields(self, machine):
        return {name: getattr(machine, name) for name in FIELDS}

    def restored(self, row):
        return restore(self.program, row, tasks=3, steps=4)

    def bad(self, row, place):
        with self.subTest(row=row[:40], place=place):
            before = list(row)
            with self.assertRaises(BadImage) as caught:
                self.restored(row)
            self.assertEqual(caught.exception.place, place)
            self.assertEqual(list(row), before)

    def there_and_back(self, machine):
        row = image(machine)
        self.assertIsInstance(row, tuple)
        self.assertEqual(row, tuple(number for number, _ in Roles().machine(machine)))
        # True and False are not integers.
        self.assertEqual([number for number in row if number.__class__ is not int], [])
        other = restore(machine.program, row, tasks=machine.tasks, steps=machine.steps)
        self.assertEqual(self.fields(other), self.fields(machine))
        self.assertIs(other.program, machine.program)
        self.assertEqual(image(other), row)
        return other

    def early(self, text, inputs=(), first=4, steps=12, tasks=500):
        """Returns a machine whose tasks have all made some steps before their turn."""
        machine = self.machine(text, inputs, tasks)
        machine.step_first(first)
        for _ in range(steps):
            machine.step_all(machine.order()[1:])
        return machine


# A machine with everything that an image may hold: values and entries of every kind, readings, writes, losses.
RICH = ("record r(f, g); var a = array(2); var t = \"a\\n~\"; var b = true; var o = none; var n = -7; a[1] = t; a[0] = b;"
        " proc p(k, v) { try { for (i = -3 to 40) { while (true) { o = new r(); o.f = v; o.g = n; ahead q(t); a[0] = k;"
        " var w = a[1]; if (k + i * 2 == b) { break; } print k; } } } catch (e) { print e; } } proc q(x) { n = n - 1; x = b; t = x;"
        " a[1] = none; return x; } ahead p(n, a); ahead p(3, o); print t;")


class TestImage(ImageCase):
    def test_a_new_machine(self):
        # No memory, no output, no input; the task (); the local state at the beginning; nothing made or spawned; no
        # task behind; not ended; three zeros.
        wanted = (0, 0, 0, 0, 0, 0, 0, 0, 0, 0, 0, 0, 0, 0, 0, 0, 0, 0)
        self.assertEqual(image(self.machine()), wanted)
        self.there_and_back(self.machine())
        self.assertEqual(image(self.machine("print 1;", [integer(-5), TRUE])),
                         (0, 0, 2, 2, -5, 1, 1) + wanted[3:])

    def test_the_example_of_the_document(self):
        text = "var total = 0;\nproc add(n) { total = total + n; }\nahead add(1);\nahead add(2);\nprint total;\n"
        machine = self.machine(text, (), 4, 100)
        machine.step_first(4)
        machine.step_all([(0,)] * 5)
        top = (0, 0)
        frame = (1, 0, 0)
        # The call that goes on at 11, and the cut of the task (0,), which has spawned (0, 0).
        control = (2, 0, 11) + top + (1,)
        writes = (1, 1, 0, 0, 0, 2, 2)
        self.assertEqual(image(machine), (
            (1, 0, 0, 0, 2, 0) + (0, 0, 0)
            # The local state of the first task, with a cut; one object made, one task spawned.
            + (4, 0) + top + top + (1, 1) + (1, 1)
            # Two tasks behind: (0,) has read total, and made 5 steps.
            + (2,) + (1, 0) + (8, 0) + top + top + (0,)
            + (18, 1, 2, 0) + frame + top + control + writes + (1, 1, 5)
            + (1, 0, 0, 0, 2, 0) + (17, 0) + frame + top + control + writes + (1, 1, 4)
            + (2, 0, 0) + 2 * ((13, 0) + top + top + (0,)) + (0, 0, 0, 0, 0)
            # Not ended; the moment, the work, nothing in vain.
            + (0, 4, 9, 0)
        ))
        self.there_and_back(machine)

    def test_values(self):
        machine = self.machine()
        machine.out = [NONE, FALSE, TRUE, integer(0), integer(-1), integer(10 ** 60 - 1), integer(1 - 10 ** 60), text_value(""),
                       text_value("a\n~"), text_value("b" * 200)]
        self.assertEqual(image(machine)[:23], (0, 10, 0, 1, 0, 1, 1, 2, 0, 2, -1, 2, 10 ** 60 - 1, 2, 1 - 10 ** 60, 3, 0,
                                               3, 3, 97, 10, 126, 3))
        self.there_and_back(machine)
        machine.memory = {((), 0, 0): ("object", (), 7), ((2, 5), 1, 3): ("object", (4, 0, 6), 9)}
        self.assertEqual(image(machine)[:18], (2, 0, 0, 0, 4, 0, 7, 2, 2, 5, 1, 3, 4, 3, 4, 0, 6, 9))
        self.there_and_back(machine)

    def test_entries_of_a_control(self):
        machine = self.machine()
        machine.local = (6, (TRUE, NONE), ("object", (1,), 2), TOP, (
            ("cut",), ("call", 9, ("object", (), 4)), ("guard", 5, TOP), ("loop", 8), ("count", 7, -3, 10 ** 70),
        ))
        row = image(machine)
        # The local state begins behind the three lists and the name of the first task.
        self.assertEqual(row[4:-7], (6, 2, 1, 1, 0, 1, 1, 2, 0, 0, 5, 1, 0, 9, 0, 4, 2, 5, 0, 0, 3, 8, 4, 7, -3, 10 ** 70))
        self.assertEqual(self.restored(row).local, machine.local)
        self.there_and_back(machine)

    def test_the_memory_ascends(self):
        places = [((), 0, 5), ((), 0, 0), ((0, 1), 0, 0), ((0,), 7, 0), ((), 3, 0), ((1,), 0, 0), ((0,), 0, 9)]
        machine = self.machine()
        machine.memory = {place: TRUE for place in places}
        row = image(machine)
        wanted = [7]
        for task, number, cell in sorted(places):
            wanted += [len(task), *task, number, cell, 1, 1]
        self.assertEqual(list(row[:len(wanted)]), wanted)
        other = self.there_and_back(machine)
        self.assertEqual(list(other.memory), sorted(places))

    def test_ends(self):
        machine = self.machine("print 1;")
        machine.step_first(100)
        self.assertEqual(image(machine)[-4:-3], (1,))
        self.assertEqual(self.there_and_back(machine).ended, ("done",))
        machine = self.machine("ahead p(); print 2; proc p() { throw \"a\"; }")
        machine.step_first(100)
        self.assertEqual(image(machine)[-7:-3], (2, 3, 1, 97))
        self.assertEqual(self.there_and_back(machine).ended, ("failed", text_value("a")))
        self.assertEqual(len(machine), 2)

    def test_writes_stay_in_their_order(self):
        machine = self.early("ahead p(); a = 1; b = 2; a = none; c = 3; var a = 0; var b = 0; var c = 0; proc p() { }", steps=8)
        writes = machine.behind[0][2][1]
        self.assertEqual([place[2] for place, _ in writes], [2, 0, 1])
        self.assertIn(NONE, [value for _, value in writes])
        self.assertEqual(self.there_and_back(machine).behind[0][2][1], writes)

    def test_a_machine_with_everything(self):
        machine = self.early(RICH, [TRUE, text_value("b")], first=45, steps=70)
        kinds = {}
        for _, role in Roles().machine(machine):
            kinds[role] = True
        self.assertEqual(sorted(kinds), sorted("count plain kind bool integer character characters free end".split()))
        self.assertTrue(machine.behind[0][3])
        self.there_and_back(machine)

    def test_the_machine_is_not_changed(self):
        machine = self.early(RICH, first=45, steps=70)
        before = self.fields(machine)
        before = {name: value.copy() if isinstance(value, (list, dict)) else value for name, value in before.items()}
        image(machine)
        self.assertEqual(self.fields(machine), before)

    def test_lists_and_tuples(self):
        machine = self.early(RICH, first=45, steps=70)
        row = image(machine)
        for numbers in (row, list(row)):
            self.assertEqual(self.fields(restore(machine.program, numbers, tasks=500, steps=500)), self.fields(machine))
            self.assertEqual(tuple(numbers), row)

    def test_kinds_of_the_fields(self):
        machine = self.early(RICH, first=45, steps=70)
        other = self.there_and_back(machine)
        for name in FIELDS:
            self.assertIs(getattr(other, name).__class__, getattr(machine, name).__class__, name)
        self.assertIs(other.behind[0].__class__, tuple)
        self.assertIs(other.behind[0][3].__class__, tuple)

    def test_another_window(self):
        machine = self.early(RICH, first=45, steps=70)
        other = restore(machine.program, image(machine), tasks=1, steps=0)
        self.assertEqual((other.tasks, other.steps), (1, 0))
        self.assertEqual(image(other), image(machine))

    def test_a_restored_machine_shares_nothing(self):
        machine = self.early(RICH, first=45, steps=70)
        row = image(machine)
        other = restore(machine.program, row, tasks=500, steps=500)
        other.step_first(30)
        self.assertEqual(image(machine), row)


class TestGoingOn(ImageCase):
    def test_restored_machines_go_on_like_the_others(self):
        """[i5]"""
        for number, (text, inputs) in enumerate(WRITTEN + races(25, 1900) + made(12, 2700)):
            chance = random.Random(number)
            machine = self.machine(text, inputs, chance.choice((3, 500)), chance.choice((8, 500)))
            with self.subTest(text=text):
                for _ in range(6):
                    other = self.there_and_back(machine)
                    for _ in range(40):
                        task = chance.choice(machine.order()[:5])
                        if chance.randrange(12) == 0:
                            at = chance.choice((None, 0, 1))
                            self.assertEqual(other.lose(task, at), machine.lose(task, at))
                        self.assertEqual(other.step_task(task), machine.step_task(task))
                    self.assertEqual(self.fields(other), self.fields(machine))
                self.assertEqual(other.step_first(200), machine.step_first(200))
                self.there_and_back(machine)
                self.assertEqual(other.look(), machine.look())


class TestFaults(ImageCase):
    """[i4]"""

    def setUp(self):
        self.machines = [self.machine(), self.early(RICH, [TRUE, text_value("b")], first=45, steps=70)]
        failed = self.machine("ahead p(); print 2; proc p() { throw \"a\"; }")
        failed.step_first(100)
        self.machines.append(failed)
        self.rows = [Roles().machine(machine) for machine in self.machines]

    def changed(self, row, at, number):
        return [old for old, _ in row[:at]] + [number] + [old for old, _ in row[at + 1:]]

    def positions(self, roles):
        """Yields the places of numbers with one of these roles; of the many plain ones not all."""
        for row in self.rows:
            for at, (number, role) in enumerate(row):
                if role in roles and (role != "plain" or len(row) < 100 or at % 5 == 0):
                    yield row, at, number

    def test_numbers_below_0(self):
        for row, at, _ in self.positions(("count", "plain", "kind", "bool", "characters", "character", "end")):
            self.bad(self.changed(row, at, -1), at)
        for row, at, _ in self.positions(("end",)):
            self.bad(self.changed(row, at, -10 ** 70), at)

    def test_numbers_that_may_be_below_0(self):
        for row, at, _ in self.positions(("integer", "free")):
            self.restored(self.changed(row, at, -1))

    def test_counters_have_no_bound(self):
        for row, at, _ in self.positions(("free",)):
            for number in (-10 ** 60, 10 ** 60, -10 ** 100, 10 ** 100):
                changed = self.changed(row, at, number)
                self.assertEqual(image(self.restored(changed)), tuple(changed))

    def test_kinds(self):
        for row, at, _ in self.positions(("kind",)):
            self.bad(self.changed(row, at, 5), at)
            self.bad(self.changed(row, at, 10 ** 30), at)

    def test_bools(self):
        for row, at, number in self.positions(("bool",)):
            self.bad(self.changed(row, at, 2), at)
            self.restored(self.changed(row, at, 1 - number))

    def test_ends(self):
        for row, at, _ in self.positions(("end",)):
            self.bad(self.changed(row, at, 3), at)

    def test_characters(self):
        for row, at, _ in self.positions(("character",)):
            for number in (0, 9, 11, 13, 31, 37, 127, 160, 10 ** 20):
                self.bad(self.changed(row, at, number), at)
        row, at, _ = list(self.positions(("character",)))[0]
        for number in range(-1, 200):
            changed = self.changed(row, at, number)
            if number in CHARACTERS:
                self.assertEqual(image(self.restored(changed)), tuple(changed))
            else:
                self.bad(changed, at)

    def test_every_character_is_restored(self):
        machine = self.machine()
        machine.out = [text_value("".join(chr(number) for number in CHARACTERS))]
        self.there_and_back(machine)

    def test_texts_that_are_too_long(self):
        head, rest = [0, 1, 3], list(image(self.machine())[2:])
        self.assertEqual(self.restored(head + [200] + [97] * 200 + rest).out, [text_value("a" * 200)])
        self.bad(head + [201] + [97] * 201 + rest, 3)
        # It is found before what comes behind.
        self.bad(head + [201], 3)
        self.bad(head + [201, -1], 3)
        self.bad(head + [10 ** 80], 3)
        self.bad(head + [200] + [97] * 199, 203)
        self.bad(head + [200] + [97] * 199 + [37] + rest, 203)

    def test_integers(self):
        for row, at, _ in self.positions(("integer",)):
            for number in (10 ** 60, -10 ** 60, 10 ** 90, -10 ** 90):
                self.bad(self.changed(row, at, number), at)
            for number in (10 ** 60 - 1, 1 - 10 ** 60):
                changed = self.changed(row, at, number)
                self.assertEqual(image(self.restored(changed)), tuple(changed))

    def test_plain_numbers_have_no_bound(self):
        # Addresses, cells, steps and the like: nothing else is asked of them.
        row = self.rows[2]
        for at, (_, role) in enumerate(row):
            if role == "plain":
                changed = self.changed(row, at, 10 ** 80)
                try:
                    self.assertEqual(image(self.restored(changed)), tuple(changed))
                except BadImage as error:
                    # In the memory the places must ascend.
                    self.assertLess(error.place, 20)

    def test_the_memory(self):
        rest = list(image(self.machine())[1:])
        first = [1, 0, 2, 3, 1, 1]

        def memory(*pairs):
            return [len(pairs)] + sum(pairs, [])

        self.assertEqual(self.restored(memory(first) + rest).memory, {((0,), 2, 3): TRUE})
        for other in ([1, 0, 2, 3], [1, 0, 2, 2], [1, 0, 1, 9], [0, 9, 9], [1, 0, 0, 0]):
            self.bad(memory(first, other + [1, 0]) + rest, 7)
            # Found when the place has been read, before what comes behind.
            self.bad(memory(first, other + [9]), 7)
            self.bad(memory(first, other), 7)
            self.bad(memory(first, other[:-1]), 6 + len(other))
        for other in ([1, 0, 2, 4], [1, 0, 3, 0], [1, 1, 0, 0], [2, 0, 0, 0, 0]):
            self.restored(memory(first, other + [1, 0]) + rest)
        # A later pair is compared with the one before it.
        self.bad(memory([0, 1, 1, 2, 0], [0, 2, 0, 2, 0], [0, 1, 5, 2, 0]) + rest, 11)
        self.bad(memory([0, 1, 1, 2, 0], [0, 1, 1, 2, 0], [0, 1, 5, -1]), 6)

    def test_none_in_the_memory(self):
        rest = list(image(self.machine())[1:])
        self.bad([1, 0, 0, 0, 0] + rest, 4)
        self.bad([2, 0, 0, 0, 2, 5, 0, 0, 1, 0] + rest, 9)
        self.bad([1, 0, 0, 0, 0], 4)
        # A place that does not ascend comes first.
        self.bad([2, 0, 0, 0, 2, 5, 0, 0, 0, 0] + rest, 6)
        # Elsewhere none is a value like others.
        self.assertEqual(self.restored([0, 1, 0] + rest[1:]).out, [NONE])

    def with_writes(self, *pairs):
        """Returns the row of a machine with one task behind that has these writes, and the place of the first one."""
        row = list(image(self.machine()))
        local = [0, 0, 0, 0, 0, 0, 0]
        head = row[:-5] + [1, 1, 0] + local + local + [len(pairs)]
        return head + sum(pairs, []) + [0, 0, 0] + [0] + row[-4:], len(head)

    def test_writes(self):
        row, begin = self.with_writes([0, 0, 5, 2, 1], [0, 0, 4, 0], [1, 0, 0, 0, 1, 1])
        machine = self.restored(row)
        self.assertEqual(machine.behind[0][2][1], (
            (((), 0, 5), integer(1)), (((), 0, 4), NONE), (((0,), 0, 0), TRUE),
        ))
        self.assertEqual(image(machine), tuple(row))
        # The places need not ascend, but must be different.
        row, begin = self.with_writes([0, 0, 5, 2, 1], [0, 0, 4, 0], [0, 0, 5, 2, 1])
        self.bad(row, begin + 9)
        row, begin = self.with_writes([0, 0, 5, 0], [0, 0, 5, 0])
        self.bad(row, begin + 4)
        # It is found when the pair has been read: faults in its value come first, those behind it do not.
        row, begin = self.with_writes([0, 0, 5, 0], [0, 0, 5, 7])
        self.bad(row, begin + 7)
        row, begin = self.with_writes([0, 0, 5, 0], [0, 0, 5, 0], [-1])
        self.bad(row, begin + 4)
        row, begin = self.with_writes([0, 0, 5, 0], [0, 0, 5, 2, 3])
        self.bad(row[:begin + 9], begin + 4)
        self.bad(row[:begin + 8], begin + 8)

    def test_writes_of_readings(self):
        row, begin = self.with_writes([0, 0, 5, 0])
        local = [0, 0, 0, 0, 0, 0, 0]
        reading = [0, 0, 1, 2, 3] + local + [2, 0, 0, 5, 0, 0, 0, 5, 0] + [0, 0, 0]
        self.assertEqual(row[begin + 7], 0)
        self.bad(row[:begin + 7] + [1] + reading + row[begin + 8:], begin + 8 + 5 + 7 + 1 + 4)
        # The same place in another run is no fault.
        reading = [0, 0, 1, 2, 3] + local + [1, 0, 0, 5, 0] + [0, 0, 0]
        machine = self.restored(row[:begin + 7] + [1] + reading + row[begin + 8:])
        self.assertEqual(machine.behind[0][3][0][:2], (((), 0, 1), integer(3)))

    def test_rows_that_end_too_early(self):
        for row in self.rows:
            numbers = [number for number, _ in row]
            for end in range(0, len(numbers), 1 if len(numbers) < 100 else 7):
                self.bad(numbers[:end], end)
            self.bad(tuple(numbers[:-1]), len(numbers) - 1)
        self.bad([], 0)
        self.bad((), 0)

    def test_lists_that_are_longer_than_the_row(self):
        self.bad([10 ** 40], 1)
        self.bad([0, 10 ** 40, 0, 0, 0], 5)
        self.bad([0, 0, 0, 10 ** 40, 1], 5)

    def test_rows_that_go_on(self):
        for row in self.rows:
            numbers = [number for number, _ in row]
            for more in ([0], [-1], [0, 0, 0], [10 ** 90]):
                self.bad(numbers + more, len(numbers))

    def test_the_first_fault_counts(self):
        row = self.rows[1]
        faults = [at for at, (_, role) in enumerate(row) if role in ("kind", "bool")]
        numbers = [number for number, _ in row]
        for first, second in zip(faults, faults[10:]):
            changed = list(numbers)
            changed[first] = changed[second] = 9
            self.bad(changed + [7], first)

    def test_nothing_else_is_asked(self):
        # Tasks of any name, addresses beyond the code, numbers that do not fit each other.
        row = [0, 0, 0, 2, 70, 80, 999, 1, 4, 1, 4, 5, 1, 6, 6, 0, 7, 1, 3, 12345, 0, 9, 0, 1, 8, 0, 8]
        machine = self.restored(row)
        self.assertEqual((machine.task, machine.local), ((70, 80), (
            999, (("object", (4,), 5),), ("object", (6,), 6), ("object", (), 7), (("loop", 12345),))))
        self.assertEqual((machine.made, machine.spawned, machine.behind, machine.ended), (0, 9, [], ("done",)))
        self.assertEqual((machine.moment, machine.work, machine.vain), (8, 0, 8))
        self.assertEqual(image(machine), tuple(row))

    def test_rows_by_chance(self):
        chance = random.Random(5)
        good = 0
        for number in range(3000):
            row = [chance.choice((0, 0, 0, 1, 1, 2, 3, 4, 10, 97, -1)) for _ in range(chance.randrange(12, 30))]
            if number % 2:
                numbers = [old for old, _ in self.rows[number % 3]]
                at = chance.randrange(len(numbers))
                row = numbers[:at] + [chance.choice((0, 1, 2, 3, 97))] + numbers[at + 1:]
            try:
                machine = self.restored(row)
            except BadImage as error:
                self.assertTrue(0 <= error.place <= len(row))
                continue
            good += 1
            self.assertEqual(image(machine), tuple(row))
        self.assertGreater(good, 100)


if __name__ == "__main__":
    unittest.main()
