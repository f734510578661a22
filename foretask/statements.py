"""Reading statements. The functions of the table at the end begin behind the keyword of their statement."""

from foretask.expressions import read_expression, read_path
from foretask.reader import refuse
from foretask.values import NOTHING


def read_statement(reader):
    """Returns the tree of the statement that begins here."""
    token = reader.token()
    kind, value, line, _ = token
    if reader.sees_call():
        return read_call_statement(reader, line, False)
    if kind == "name":
        return read_assignment(reader, line)
    if kind != "word" or value not in BY_KEYWORD:
        refuse(token, "expected a statement")
    reader.take()
    action = BY_KEYWORD[value]
    return action(reader, line)


def read_block(reader):
    """Returns the tuple of the statements of the block that begins here."""
    reader.open_block()
    block = []
    while not reader.close_block():
        block.append(read_statement(reader))
    return tuple(block)


def read_list(reader, read_one):
    """Returns the tuple of what stands between the parentheses that begin here."""
    reader.expect("(")
    if reader.accept(")"):
        return ()
    found = [read_one(reader)]
    while reader.accept(","):
        found.append(read_one(reader))
    reader.expect(")")
    return tuple(found)


def read_name(reader):
    return reader.expect_name()


def read_names(reader):
    """Returns the tuple of the names in the parentheses that begin here."""
    return read_list(reader, read_name)


def read_call(reader):
    """Returns the name and the arguments of the call that begins here."""
    name = reader.expect_name()
    return name, read_list(reader, read_expression)


def read_test(reader):
    reader.expect("(")
    test = read_expression(reader)
    reader.expect(")")
    return test


def read_right(reader):
    """Returns the right side that begins here."""
    if reader.accept("read"):
        reader.expect("(")
        reader.expect(")")
        return ("read",)
    ahead = reader.accept("ahead")
    if ahead or reader.sees_call():
        name, arguments = read_call(reader)
        return ("call", name, arguments, ahead)
    return ("expr", read_expression(reader))


def read_call_statement(reader, line, ahead):
    name, arguments = read_call(reader)
    reader.expect(";")
    return ("call", line, name, arguments, ahead)


def read_assignment(reader, line):
    path = read_path(reader)
    reader.expect("=")
    if path[0] == "name":
        statement = ("set", line, path[1], read_right(reader))
    elif path[0] == "field":
        statement = ("set_field", line, path[1], path[2], read_expression(reader))
    else:
        statement = ("set_item", line, path[1], path[2], read_expression(reader))
    reader.expect(";")
    return statement


def read_ahead(reader, line):
    if reader.accept("for"):
        return read_turns(reader, line, True)
    return read_call_statement(reader, line, True)


def read_var(reader, line):
    name = reader.expect_name()
    reader.expect("=")
    right = read_right(reader)
    reader.expect(";")
    return ("var", line, name, right)


def read_if(reader, line):
    test = read_test(reader)
    yes = read_block(reader)
    no = read_else(reader) if reader.accept("else") else ()
    return ("if", line, test, yes, no)


def read_else(reader):
    """Returns the block behind else."""
    if not reader.sees("if"):
        return read_block(reader)
    # The block of this if needs no check of its own: the block before else was as deep, and held.
    reader.blocks += 1
    statement = read_statement(reader)
    reader.blocks -= 1
    return (statement,)


def read_while(reader, line):
    test = read_test(reader)
    return ("while", line, test, read_block(reader))


def read_for(reader, line):
    return read_turns(reader, line, False)


def read_turns(reader, line, ahead):
    """Reads a for statement behind its keyword."""
    reader.expect("(")
    counter = reader.expect_name()
    reader.expect("=")
    low = read_expression(reader)
    reader.expect("to")
    high = read_expression(reader)
    reader.expect(")")
    return ("for", line, counter, low, high, read_block(reader), ahead)


def read_return(reader, line):
    if reader.accept(";"):
        return ("return", line, NOTHING)
    return ("return", line, read_operand(reader))


def read_break(reader, line):
    reader.expect(";")
    return ("break", line)


def read_throw(reader, line):
    return ("throw", line, read_operand(reader))


def read_print(reader, line):
    return ("print", line, read_operand(reader))


def read_operand(reader):
    """Reads an expression that ends its statement."""
    tree = read_expression(reader)
    reader.expect(";")
    return tree


def read_try(reader, line):
    block = read_block(reader)
    reader.expect("catch")
    reader.expect("(")
    name = reader.expect_name()
    reader.expect(")")
    return ("try", line, block, name, read_block(reader))


BY_KEYWORD = {
    "ahead": read_ahead, "var": read_var, "if": read_if, "while": read_while, "for": read_for,
    "return": read_return, "break": read_break, "throw": read_throw, "print": read_print, "try": read_try,
}
