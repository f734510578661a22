"""[q4], [m8], [m9] and the last sentence of [l10], by many programs with statements of every kind."""

import unittest

from foretask.direct import meaning
from foretask.parsing import parse
from foretask.program import compile_tree
from foretask.serial import Serial, next_action, serial_step
from foretask.without import without_ahead
from tests.programs import WRITTEN, made
from tests.support import Case

PROGRAMS = WRITTEN + made(250)
# How many steps a run is given until it is taken to be without end.
MANY = 12000


def outcome(run):
    return (run.ended, tuple(run.out), tuple(run.left))


class TestAgreement(Case):
    def test_meaning_and_sequential_run(self):
        ended = 0
        for text, inputs in PROGRAMS:
            with self.subTest(text=text):
                tree = parse(text)
                bare = without_ahead(tree)
                found = []
                for one in (tree, bare):
                    run = Serial(compile_tree(one), inputs)
                    while run.moment < MANY and serial_step(run):
                        pass
                    found.append((run.ended is not None, outcome(run)))
                whole = meaning(tree, inputs, 10000)
                self.assertEqual(meaning(bare, inputs, 10000), whole)
                if found[0][0]:
                    ended += 1
                    # Each unit needs a step of its own, so the units are enough.
                    self.assertEqual(found, [(True, whole), (True, whole)])
                else:
                    self.assertFalse(found[1][0])
        # The runs without end are a few alone.
        self.assertGreater(ended, len(PROGRAMS) - 12)

    def test_more_units_never_change_an_answer(self):
        for text, inputs in PROGRAMS[:60]:
            with self.subTest(text=text):
                tree = parse(text)
                whole = meaning(tree, inputs, 2000)
                answered = False
                for fuel in list(range(40)) + [60, 100, 200, 400, 800, 1600]:
                    found = meaning(tree, inputs, fuel)
                    if answered or found is not None:
                        answered = True
                        self.assertEqual(found, whole)

    def test_every_kind_of_instruction_and_action_is_met(self):
        instructions = {}
        actions = {}
        for text, inputs in PROGRAMS[:120]:
            program = compile_tree(parse(text))
            run = Serial(program, inputs)
            while run.moment < 2000 and run.ended is None:
                instructions[program.code[run.local[0]][0]] = True
                actions[next_action(run)[0]] = True
                serial_step(run)
        self.assertEqual(sorted(actions), sorted(
            ["quiet", "read", "write", "make", "output", "input", "spawn", "give_up", "stop", "fail"]))
        self.assertEqual(sorted(instructions), sorted(
            "push load store counter not minus both jump jump_not and_jump or_jump kind field item size sized make tag"
            " check_size tag_size set_field set_item call return drop print input throw guard unguard end_loop loop each test"
            " next break spawn finish halt enter".split()))

    def test_objects_with_variables_are_no_values(self):
        for text, inputs in PROGRAMS[:120]:
            with self.subTest(text=text):
                run = Serial(compile_tree(parse(text)), inputs)
                frames = {}
                values = {}
                while run.moment < 1500:
                    told = next_action(run)
                    if told is None:
                        break
                    if told[0] == "make" and told[1] != "operand":
                        frames[("object", run.task, run.made)] = True
                    if told[0] == "write":
                        values[told[2]] = True
                    serial_step(run)
                    for value in run.local[1]:
                        values[value] = True
                    for _, waiting in run.behind[:1]:
                        for value in waiting[1]:
                            values[value] = True
                for value in list(run.memory.values()) + run.out:
                    values[value] = True
                self.assertEqual([value for value in values if value in frames], [])
                if run.moment > 0:
                    self.assertTrue(frames)


if __name__ == "__main__":
    unittest.main()
