"""Programs as they are run."""

from foretask.bounds import INSTRUCTIONS
from foretask.checking import check_names
from foretask.coding import Coder, code_program
from foretask.errors import NameFault
from foretask.scopes import variables_of
from foretask.strings import shown_value


class Program:
    """The code of a program, with the line of each instruction, and what the program declares."""

    def __init__(self, code, lines, records, variables, procedures):
        self.code = code
        self.lines = lines
        self.records = records
        self.variables = variables
        self.procedures = procedures

    def listing(self):
        """Returns the tuple of the pairs (line, text) of the instructions."""
        names = [name for name, _, _ in self.procedures]
        shown = [shown_instruction(names, instruction) for instruction in self.code]
        return tuple(zip(self.lines, shown))


def shown_instruction(names, instruction):
    """Returns an instruction as a listing writes it; names are those of the procedures."""
    if instruction[0] == "call":
        _, number, count = instruction
        return f"call {names[number]} {count}"
    return " ".join([shown_part(part) for part in instruction])


def shown_part(part):
    if not isinstance(part, tuple):
        return str(part)
    if part[0] in ("own", "top"):
        return f"{part[0]} {part[1]}"
    return shown_value(part)


def compile_tree(tree):
    """Returns the Program of the tree of a program."""
    check_names(tree)
    _, records, procedures, block = tree
    coder = Coder({row[1]: number for number, row in enumerate(procedures)})
    coded = code_program(coder, tree)
    if len(coder.code) > INSTRUCTIONS:
        raise NameFault(0, "program too long")
    return Program(
        tuple(coder.code),
        tuple(coder.lines),
        tuple([(name, fields) for _, name, fields in records]),
        variables_of(block, ()),
        coded,
    )
