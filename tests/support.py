"""What several test files need."""

import unittest

from foretask.errors import NameFault, TextFault
from foretask.parsing import parse
from foretask.program import compile_tree


def place_of(text, at):
    """Returns the line and the column of the character number at of a text."""
    before = text[:at]
    return before.count("\n") + 1, at - (before.rfind("\n") + 1) + 1


def without_lines(tree):
    """Returns the tree of a program with 0 for every line."""
    _, records, procedures, block = tree
    return (
        "program",
        tuple((0, name, fields) for _, name, fields in records),
        tuple((0, name, names, block_without_lines(body)) for _, name, names, body in procedures),
        block_without_lines(block),
    )


def block_without_lines(block):
    blocks = {"if": (3, 4), "while": (3,), "for": (5,), "try": (2, 4)}
    rows = []
    for statement in block:
        parts = list(statement)
        parts[1] = 0
        for at in blocks.get(statement[0], ()):
            parts[at] = block_without_lines(parts[at])
        rows.append(tuple(parts))
    return tuple(rows)


class Case(unittest.TestCase):
    maxDiff = None

    def text_fault(self, function, text, line, column, reason):
        with self.subTest(text=text):
            with self.assertRaises(TextFault) as caught:
                function(text)
            error = caught.exception
            self.assertEqual((error.line, error.column, error.reason), (line, column, reason))

    def text_fault_at(self, function, text, at, reason):
        """The fault is at the character number at of the text; below 0 counts from the end of the text."""
        line, column = place_of(text, at if at >= 0 else len(text) + at)
        self.text_fault(function, text, line, column, reason)

    def text_fault_marked(self, function, marked, reason):
        """The fault is at the place of the mark ^ in the text, which is taken out of it."""
        at = marked.index("^")
        text = marked[:at] + marked[at + 1:]
        line, column = place_of(text, at)
        self.text_fault(function, text, line, column, reason)

    def name_fault(self, function, tree, line, reason, text=None):
        with self.subTest(text=text, reason=reason):
            with self.assertRaises(NameFault) as caught:
                function(tree)
            error = caught.exception
            self.assertEqual((error.line, error.reason), (line, reason))


NONE = ("none",)
TRUE = ("bool", True)
FALSE = ("bool", False)
# Three objects that are all different: a frame, the variables of the program, and any other object.
FRAME = ("object", (1,), 4)
TOP = ("object", (), 0)
THING = ("object", (0, 2), 3)


def integer(number):
    return ("int", number)


def text_value(characters):
    return ("text", characters)


def program_of(text):
    """Returns the Program of a program text."""
    return compile_tree(parse(text))


def state_of(run):
    """Returns what a sequential run and a machine share, as one value that can be compared."""
    return (run.memory, run.out, run.left, run.task, run.local, run.made, run.spawned, run.ended)
