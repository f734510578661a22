"""Reading program texts and expressions into trees."""

from foretask.expressions import read_expression
from foretask.reader import Reader, refuse
from foretask.statements import read_block, read_names, read_statement
from foretask.words import tokens


def parse(text):
    """Returns the tree of a program text."""
    reader = Reader(tokens(text))
    records = []
    procedures = []
    block = []
    while reader.token()[0] != "end":
        line = reader.token()[2]
        if reader.accept("record"):
            records.append(read_record(reader, line))
        elif reader.accept("proc"):
            procedures.append(read_procedure(reader, line))
        else:
            block.append(read_statement(reader))
    return ("program", tuple(records), tuple(procedures), tuple(block))


def read_record(reader, line):
    name = reader.expect_name()
    fields = read_names(reader)
    reader.expect(";")
    return (line, name, fields)


def read_procedure(reader, line):
    name = reader.expect_name()
    parameters = read_names(reader)
    return (line, name, parameters, read_block(reader))


def parse_expression(text):
    """Returns the tree of a text that is one expression up to its end."""
    reader = Reader(tokens(text))
    tree = read_expression(reader)
    if reader.token()[0] != "end":
        refuse(reader.token(), "expected end")
    return tree
