"""What the document promises over the whole program: [c17], and bounds that are passed without an error."""

import copy
import unittest

from foretask.advice import advice
from foretask.back import taken_back
from foretask.errors import BadImage, ForetaskError, NameFault, NoSuchStep, TextFault, UnknownVariable
from foretask.direct import meaning
from foretask.history import changes, readers, reason, state_at, visits
from foretask.images import restore
from foretask.jobs import jobs, schedule
from foretask.machine import Machine
from foretask.moments import allowed, begins, links, place_at, reads_of_others, spawned_at
from foretask.numbers import image
from foretask.parsing import parse, parse_expression
from foretask.printing import show
from foretask.profiles import dependences, profile, without_variables
from foretask.program import compile_tree
from foretask.publishing import first_wrong
from foretask.rounds import rounds
from foretask.runs import begun, run_step
from foretask.scopes import variables_of
from foretask.separate import separate_loops
from foretask.serial import Serial, next_action, run_serial
from foretask.steps import action, beginning
from foretask.strings import quoted
from foretask.trace import trace
from foretask.without import without_ahead
from foretask.words import tokens
from tests.programs import WRITTEN, made, races
from tests.support import Case, integer, program_of, text_value

# Ten tasks and some more; it reads its input, and fails at the end.
TEXT = ("var n = read();\nproc p(k) { n = n + k; var m = read(); print m; }\nahead for (i = 1 to 3) {\nahead p(i);\n}\n"
        "ahead p(n);\nvar a = array(3);\nahead for (i = 0 to 3) {\na[i] = n;\n}")


class WholeCase(Case):
    def setUp(self):
        self.program = program_of(TEXT)
        self.inputs = [integer(3), text_value("b")]

    def frozen(self, value):
        """Returns what tells whether a value has changed."""
        if isinstance(value, (list, tuple)):
            return (value.__class__.__name__, [self.frozen(part) for part in value])
        if isinstance(value, dict):
            return ("dict", {key: self.frozen(part) for key, part in value.items()})
        if hasattr(value, "__dict__"):
            return (value.__class__.__name__, self.frozen(vars(value)))
        return value


class TestArguments(WholeCase):
    def unchanged(self, function, *arguments, **more):
        """The function changes none of its arguments, and gives the same once more."""
        before = self.frozen(arguments)
        found = function(*arguments, **more)
        self.assertEqual(self.frozen(arguments), before, function.__name__)
        self.assertEqual(self.frozen(function(*arguments, **more)), self.frozen(found))
        return found

    def test_texts_and_trees(self):
        tree = self.unchanged(parse, TEXT)
        self.unchanged(tokens, TEXT)
        self.unchanged(show, tree)
        self.unchanged(variables_of, tree[3], ())
        self.unchanged(without_ahead, tree)
        self.unchanged(compile_tree, tree)
        self.unchanged(meaning, tree, self.inputs, 1000)
        self.unchanged(self.program.listing)
        self.unchanged(quoted, TEXT)

    def test_runs_and_machines(self):
        run = run_serial(self.program, self.inputs, 20)
        self.unchanged(next_action, run)
        self.unchanged(run_serial, self.program, self.inputs, 50)
        self.unchanged(action, self.program, beginning())
        self.unchanged(Serial, self.program, self.inputs)
        machine = Machine(self.program, self.inputs, tasks=9, steps=20)
        machine.step_first(12)
        for _ in range(9):
            machine.step_all(machine.order()[1:])
        name, begin, early, readings = [row for row in machine.behind if row[3]][0]
        self.unchanged(first_wrong, readings, machine.memory)
        self.unchanged(run_step, self.program, name, begun(begin), machine.memory)
        self.unchanged(run_step, self.program, name, early, machine.memory)
        for function in (machine.order, machine.look):
            self.unchanged(function)
        row = list(self.unchanged(image, machine))
        restored = self.unchanged(restore, self.program, row, tasks=9, steps=20)
        self.assertEqual(self.frozen(restored), self.frozen(machine))
        before = self.frozen(machine)
        machine.readings_of(name)
        machine.value_at(((), 0, 0))
        len(machine)
        self.assertEqual(self.frozen(machine), before)

    def test_traces(self):
        entries = self.unchanged(trace, self.program, self.inputs, 400)
        back = [step for step in range(len(entries)) if taken_back(entries, step) is not None]
        self.assertTrue(back)
        for step in (0, back[0], back[-1], len(entries) - 1):
            for function in (reads_of_others, links, taken_back, jobs, schedule):
                self.unchanged(function, entries, step)
        for function in (begins, spawned_at, allowed):
            self.unchanged(function, entries, (0, 0))
        self.unchanged(place_at, entries, ((), 0, 0), 30)
        for function in (profile, dependences):
            self.unchanged(function, entries)
        self.unchanged(without_variables, entries, [0, 1])
        self.unchanged(advice, self.program, self.inputs, 400)
        self.unchanged(rounds, self.program, self.inputs, tasks=5, steps=30, most=200)

    def test_history_and_loops(self):
        self.unchanged(state_at, self.program, self.inputs, 40)
        self.unchanged(changes, self.program, self.inputs, 400, "n")
        self.unchanged(reason, self.program, self.inputs, 400, "n")
        self.unchanged(readers, self.program, self.inputs, 5, 400, "n")
        self.unchanged(visits, self.program, self.inputs, 400, 4)
        self.assertEqual(self.unchanged(separate_loops, self.program), ((3, False, 4, "flow"), (8, True)))

    def test_inputs_may_be_lists_or_tuples(self):
        for function, more in ((trace, (400,)), (advice, (400,)), (state_at, (70,)), (changes, (400, "n")), (reason, (400, "n")),
                               (readers, (0, 400, "n")), (visits, (400, 2))):
            self.assertEqual(function(self.program, self.inputs, *more), function(self.program, tuple(self.inputs), *more))
        self.assertEqual(rounds(self.program, self.inputs, tasks=5, steps=30, most=200),
                         rounds(self.program, tuple(self.inputs), tasks=5, steps=30, most=200))


class TestErrors(WholeCase):
    def test_the_errors_of_all_functions(self):
        entries = trace(self.program, self.inputs, 400)
        count = len(entries)
        cases = [
            (TextFault, tokens, ("$",)), (TextFault, parse, ("x",)), (TextFault, parse_expression, ("1 2",)),
            (NameFault, compile_tree, (parse("x = 1;"),)), (BadImage, lambda: restore(self.program, [], tasks=1, steps=1), ()),
        ]
        cases += [(NoSuchStep, function, (entries, count)) for function in (reads_of_others, links, taken_back, jobs, schedule)]
        cases += [(UnknownVariable, function, (self.program, [], 10, "k")) for function in (changes, reason)]
        cases += [(UnknownVariable, readers, (self.program, [], 0, 10, "k"))]
        for told, function, arguments in cases:
            with self.subTest(told=told.__name__, function=function.__name__):
                with self.assertRaises(ForetaskError) as caught:
                    function(*arguments)
                self.assertIs(caught.exception.__class__, told)

    def test_nothing_else_is_raised(self):
        """All functions over programs, at ordinary arguments and at the least and greatest ones."""
        for text, inputs in WRITTEN + made(12, 2900) + races(12, 2100):
            program = program_of(text)
            with self.subTest(text=text):
                for limit in (0, 1, 90):
                    entries = trace(program, inputs, limit)
                    profile(entries)
                    dependences(entries)
                    advice(program, inputs, limit)
                    rounds(program, inputs, tasks=1 + limit, steps=limit, most=limit)
                    for step in range(0, len(entries), 11):
                        schedule(entries, step)
                for moment in (0, 1, 2000):
                    state_at(program, inputs, moment)
                for name in program.variables[:2]:
                    changes(program, inputs, 300, name)
                    reason(program, inputs, 300, name)
                    readers(program, inputs, 0, 300, name)
                visits(program, inputs, 300, 1)
                separate_loops(program)


class TestBeyondBounds(WholeCase):
    """Callers may go somewhat beyond a limit, and the program raises no error for this."""

    def test_limits(self):
        program = program_of("var v = 0; while (true) { ahead p(); } proc p() { v = v + 1; }")
        self.assertEqual(len(trace(program, (), 450)), 450)
        self.assertEqual(len(profile(trace(program, (), 450))), len(profile(trace(program, (), 400))) + 4)
        self.assertEqual(advice(program, (), 450)[0][0], 1)
        self.assertEqual(rounds(program, (), tasks=1, steps=0, most=450)[0], 450)
        self.assertEqual(rounds(program, (), tasks=600, steps=600, most=20)[0], 20)
        self.assertEqual(state_at(program, (), 2100)[0], None)
        self.assertGreater(changes(program, (), 2100, "v")[-1][0], 2000)
        self.assertGreater(reason(program, (), 2100, "v")[0], 2000)
        self.assertGreater(readers(program, (), 2001, 2100, "v")[-1], 2000)
        self.assertEqual(visits(program, (), 2100, 8100), ())

    def test_the_greatest_window_and_the_longest_run(self):
        program = program_of("var v = 0; while (true) { ahead p(); } proc p() { v = v + 1; }")
        machine = Machine(program, (), tasks=500, steps=500)
        for _ in range(600):
            machine.step_all(machine.order())
        row = image(machine)
        other = restore(program, row, tasks=500, steps=500)
        self.assertEqual(self.frozen(other), self.frozen(copy.copy(machine)))


if __name__ == "__main__":
    unittest.main()
