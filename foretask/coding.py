"""The code of expressions and statements. The functions of the tables add the code of one expression or one
statement to a Coder, in a scope."""

from foretask.operators import OPPOSITES
from foretask.scopes import scope_of, variables_of
from foretask.values import NONE

# Stands for an address behind an instruction until it is known.
UNKNOWN = -1


class Coder:
    """Code that is being made: its instructions and their lines; numbers are those of the procedures."""

    def __init__(self, numbers):
        self.code = []
        self.lines = []
        self.numbers = numbers

    def here(self):
        """Returns the address of the next instruction."""
        return len(self.code)

    def put(self, line, *instruction):
        """Adds an instruction, and returns its address."""
        self.code.append(tuple(instruction))
        self.lines.append(line)
        return len(self.code) - 1

    def put_open(self, line, name):
        """Adds an instruction whose address is told later, by aim."""
        return self.put(line, name, UNKNOWN)

    def aim(self, at, address):
        self.code[at] = (self.code[at][0], address)

    def aim_here(self, at):
        self.aim(at, self.here())


def code_program(coder, tree):
    """Adds the code of the tree of a program; returns the variables and the addresses of its procedures, each as
    a row of (name, variables, address)."""
    _, _, procedures, block = tree
    top = variables_of(block, ())
    coder.put(0, "enter")
    code_block(coder, scope_of(None, top), block)
    coder.put(0, "halt")
    rows = []
    for _, name, parameters, body in procedures:
        own = variables_of(body, parameters)
        rows.append((name, own, coder.here()))
        code_procedure(coder, scope_of(own, top), len(parameters), body)
    return tuple(rows)


def code_procedure(coder, scope, count, body):
    # The last argument lies on top of the operands.
    for number in reversed(range(count)):
        coder.put(0, "store", ("own", number))
    code_block(coder, scope, body)
    coder.put(0, "push", NONE)
    coder.put(0, "return")


def code_block(coder, scope, block):
    for statement in block:
        action = STATEMENTS[statement[0]]
        action(coder, scope, statement)


def code_expression(coder, scope, line, tree):
    action = EXPRESSIONS[tree[0]]
    action(coder, scope, line, tree)


def code_const(coder, _, line, tree):
    coder.put(line, "push", tree[1])


def code_name(coder, scope, line, tree):
    meaning = scope.meaning(tree[1])
    if meaning[0] == "counter":
        coder.put(line, "counter", meaning[1])
    else:
        coder.put(line, "load", meaning)


def code_operator(coder, scope, line, tree):
    """Adds not or minus with its operand."""
    code_expression(coder, scope, line, tree[1])
    coder.put(line, tree[0])


def code_both(coder, scope, line, tree):
    _, operator, left, right = tree
    code_expression(coder, scope, line, left)
    code_expression(coder, scope, line, right)
    if operator in OPPOSITES:
        coder.put(line, "both", OPPOSITES[operator])
        coder.put(line, "not")
    else:
        coder.put(line, "both", operator)


def code_choice(coder, scope, line, tree):
    """Adds and or or with its operands."""
    kind, left, right = tree
    code_expression(coder, scope, line, left)
    jump = coder.put_open(line, "and_jump" if kind == "and" else "or_jump")
    code_expression(coder, scope, line, right)
    coder.aim_here(jump)


def code_thing(coder, scope, line, tree):
    """Adds the object whose field or item is meant, and its kind."""
    code_expression(coder, scope, line, tree)
    coder.put(line, "kind")


def code_field(coder, scope, line, tree):
    _, thing, name = tree
    code_thing(coder, scope, line, thing)
    coder.put(line, "field", name)


def code_item(coder, scope, line, tree):
    _, thing, number = tree
    code_thing(coder, scope, line, thing)
    code_expression(coder, scope, line, number)
    coder.put(line, "item")


def code_size(coder, scope, line, tree):
    code_expression(coder, scope, line, tree[1])
    coder.put(line, "size")
    coder.put(line, "sized")


def code_new(coder, _, line, tree):
    coder.put(line, "make")
    coder.put(line, "tag", tree[1])


def code_array(coder, scope, line, tree):
    code_expression(coder, scope, line, tree[1])
    coder.put(line, "check_size")
    coder.put(line, "make")
    coder.put(line, "tag_size")


EXPRESSIONS = {
    "const": code_const, "name": code_name, "not": code_operator, "minus": code_operator, "both": code_both,
    "and": code_choice, "or": code_choice, "field": code_field, "item": code_item, "size": code_size,
    "new": code_new, "array": code_array,
}


def code_call(coder, scope, line, name, arguments):
    for argument in arguments:
        code_expression(coder, scope, line, argument)
    coder.put(line, "call", coder.numbers[name], len(arguments))


def put_spawn(coder, line, ahead):
    """Adds the spawn of a statement with ahead, and returns its address; None without ahead."""
    return coder.put_open(line, "spawn") if ahead else None


def put_finish(coder, line, spawn):
    """Adds what ends the part that the spawn stands before, and lets its task begin behind it."""
    if spawn is not None:
        coder.put(line, "finish")
        coder.aim_here(spawn)


def code_assign(coder, scope, statement):
    """Adds a var or set statement."""
    _, line, name, right = statement
    spawn = put_spawn(coder, line, right[0] == "call" and right[3])
    if right[0] == "expr":
        code_expression(coder, scope, line, right[1])
    elif right[0] == "read":
        coder.put(line, "input")
    else:
        code_call(coder, scope, line, right[1], right[2])
    coder.put(line, "store", scope.meaning(name))
    put_finish(coder, line, spawn)


def code_set_field(coder, scope, statement):
    _, line, thing, name, value = statement
    code_thing(coder, scope, line, thing)
    code_expression(coder, scope, line, value)
    coder.put(line, "set_field", name)


def code_set_item(coder, scope, statement):
    _, line, thing, number, value = statement
    code_thing(coder, scope, line, thing)
    code_expression(coder, scope, line, number)
    code_expression(coder, scope, line, value)
    coder.put(line, "set_item")


def code_call_statement(coder, scope, statement):
    _, line, name, arguments, ahead = statement
    spawn = put_spawn(coder, line, ahead)
    code_call(coder, scope, line, name, arguments)
    coder.put(line, "drop")
    put_finish(coder, line, spawn)


def code_if(coder, scope, statement):
    _, line, test, yes, no = statement
    code_expression(coder, scope, line, test)
    to_no = coder.put_open(line, "jump_not")
    code_block(coder, scope, yes)
    to_end = coder.put_open(line, "jump")
    coder.aim_here(to_no)
    code_block(coder, scope, no)
    coder.aim_here(to_end)


def code_while(coder, scope, statement):
    _, line, test, block = statement
    loop = coder.put_open(line, "loop")
    again = coder.here()
    code_expression(coder, scope, line, test)
    to_last = coder.put_open(line, "jump_not")
    code_block(coder, scope.within_while(), block)
    coder.put(line, "jump", again)
    coder.aim(to_last, coder.put(line, "end_loop"))
    coder.aim_here(loop)


def code_for(coder, scope, statement):
    _, line, counter, low, high, block, ahead = statement
    code_expression(coder, scope, line, low)
    code_expression(coder, scope, line, high)
    each = coder.put_open(line, "each")
    test = coder.put_open(line, "test")
    spawn = put_spawn(coder, line, ahead)
    code_block(coder, scope.within_for(counter), block)
    put_finish(coder, line, spawn)
    coder.put(line, "next", test)
    coder.aim(test, coder.put(line, "end_loop"))
    coder.aim_here(each)


def code_operand(coder, scope, statement):
    """Adds a statement that consists of an expression and the instruction with the statement's name."""
    kind, line, tree = statement
    code_expression(coder, scope, line, tree)
    coder.put(line, kind)


def code_break(coder, _, statement):
    coder.put(statement[1], "break")


def code_try(coder, scope, statement):
    _, line, block, name, handler = statement
    guard = coder.put_open(line, "guard")
    code_block(coder, scope, block)
    coder.put(line, "unguard")
    to_end = coder.put_open(line, "jump")
    coder.aim_here(guard)
    coder.put(line, "store", scope.meaning(name))
    code_block(coder, scope, handler)
    coder.aim_here(to_end)


STATEMENTS = {
    "var": code_assign, "set": code_assign, "set_field": code_set_field, "set_item": code_set_item,
    "call": code_call_statement, "if": code_if, "while": code_while, "for": code_for,
    "return": code_operand, "break": code_break, "throw": code_operand, "try": code_try,
    "print": code_operand,
}
