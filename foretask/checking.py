"""Checking how a program uses its names. The functions of the tables check a statement in a scope, with what
the program declares."""

from foretask.errors import NameFault
from foretask.scopes import scope_of, variables_of


class Declared:
    """What a program declares, each by its name: records, fields, procedures with how many arguments they take,
    and the variables of the program."""

    def __init__(self, tree):
        _, records, procedures, block = tree
        self.records = {name: True for _, name, _ in records}
        self.fields = {field: True for _, _, fields in records for field in fields}
        self.procedures = {name: len(parameters) for _, name, parameters, _ in procedures}
        self.variables = variables_of(block, ())


def check_names(tree):
    """Raises NameFault for the first fault in the names of the tree of a program."""
    _, records, procedures, block = tree
    check_declarations("record", records)
    check_declarations("procedure", [(line, name, parameters) for line, name, parameters, _ in procedures])
    declared = Declared(tree)
    top = declared.variables
    for _, _, parameters, body in procedures:
        check_block(declared, scope_of(variables_of(body, parameters), top), body)
    check_block(declared, scope_of(None, top), block)


def check_declarations(kind, rows):
    """Checks that no name of the rows, and no part of a row, stands twice."""
    earlier = {}
    for line, name, parts in rows:
        if name in earlier:
            raise NameFault(line, f"{kind} {name} is declared twice")
        earlier[name] = True
        check_parts(line, parts)


def check_parts(line, parts):
    earlier = {}
    for part in parts:
        if part in earlier:
            raise NameFault(line, f"name {part} stands twice")
        earlier[part] = True


def check_block(declared, scope, block):
    for statement in block:
        action = STATEMENTS[statement[0]]
        action(declared, scope, statement)


def check_expression(declared, scope, line, tree):
    kind = tree[0]
    if kind == "name":
        if scope.meaning(tree[1]) is None:
            raise NameFault(line, f"unknown variable {tree[1]}")
    elif kind == "new":
        if tree[1] not in declared.records:
            raise NameFault(line, f"unknown record {tree[1]}")
    elif kind == "field":
        check_expression(declared, scope, line, tree[1])
        check_field(declared, line, tree[2])
    elif kind != "const":
        parts = tree[2:] if kind == "both" else tree[1:]
        for part in parts:
            check_expression(declared, scope, line, part)


def check_field(declared, line, name):
    if name not in declared.fields:
        raise NameFault(line, f"unknown field {name}")


def check_right(declared, scope, line, right):
    if right[0] == "expr":
        check_expression(declared, scope, line, right[1])
    elif right[0] == "call":
        _, name, arguments, _ = right
        check_call(declared, scope, line, name, arguments)


def check_call(declared, scope, line, name, arguments):
    if name not in declared.procedures:
        raise NameFault(line, f"unknown procedure {name}")
    taken = declared.procedures[name]
    if len(arguments) != taken:
        raise NameFault(line, f"{name} takes {taken} arguments")
    for argument in arguments:
        check_expression(declared, scope, line, argument)


def check_assigned(scope, line, name):
    """Checks that a statement may assign a name: that it means no counter."""
    if name in scope.counters:
        raise NameFault(line, f"counter {name} cannot be assigned")


def check_var(declared, scope, statement):
    _, line, name, right = statement
    check_right(declared, scope, line, right)
    check_assigned(scope, line, name)


def check_set(declared, scope, statement):
    check_var(declared, scope, statement)
    _, line, name, _ = statement
    check_expression(declared, scope, line, ("name", name))


def check_set_field(declared, scope, statement):
    _, line, thing, name, value = statement
    check_expression(declared, scope, line, thing)
    check_field(declared, line, name)
    check_expression(declared, scope, line, value)


def check_set_item(declared, scope, statement):
    _, line, thing, number, value = statement
    for part in (thing, number, value):
        check_expression(declared, scope, line, part)


def check_call_statement(declared, scope, statement):
    _, line, name, arguments, _ = statement
    check_call(declared, scope, line, name, arguments)


def check_if(declared, scope, statement):
    _, line, test, yes, no = statement
    check_expression(declared, scope, line, test)
    check_block(declared, scope, yes)
    check_block(declared, scope, no)


def check_while(declared, scope, statement):
    _, line, test, block = statement
    check_expression(declared, scope, line, test)
    check_block(declared, scope.within_while(), block)


def check_for(declared, scope, statement):
    _, line, counter, low, high, block, _ = statement
    check_expression(declared, scope, line, low)
    check_expression(declared, scope, line, high)
    if counter in scope.counters:
        raise NameFault(line, f"counter {counter} is in use")
    check_block(declared, scope.within_for(counter), block)


def check_return(declared, scope, statement):
    if scope.own is None:
        raise NameFault(statement[1], "return outside of a procedure")
    check_operand(declared, scope, statement)


def check_operand(declared, scope, statement):
    """Checks a statement that consists of a keyword and an expression."""
    _, line, tree = statement
    check_expression(declared, scope, line, tree)


def check_break(_, scope, statement):
    if not scope.looped:
        raise NameFault(statement[1], "break outside of a loop")


def check_try(declared, scope, statement):
    _, line, block, name, handler = statement
    check_block(declared, scope, block)
    check_assigned(scope, line, name)
    check_block(declared, scope, handler)


STATEMENTS = {
    "var": check_var, "set": check_set, "set_field": check_set_field, "set_item": check_set_item,
    "call": check_call_statement, "if": check_if, "while": check_while, "for": check_for,
    "return": check_return, "break": check_break, "throw": check_operand, "try": check_try,
    "print": check_operand,
}
