"""The meaning of a program: its statements run one after the other, and ahead means nothing. Each function of the
table runs a statement and returns what leaves the blocks around it: None if nothing does, ("break",), or
("return", value)."""

from foretask.bounds import CALLS
from foretask.cells import field_cell, item_cell
from foretask.errors import ForetaskError
from foretask.evaluating import KIND, Run, Spot, Thrown, cells_of, checked, evaluate, unassigned, variables_with
from foretask.operators import truth
from foretask.values import NONE


class OutOfUnits(ForetaskError):
    """A run needs more units than it has. It never leaves the functions of the interface."""


def meaning(tree, inputs, fuel):
    """Returns (ended, out, left) of the run of a tree; None if it needs more units than fuel."""
    run = Run(tree, inputs, fuel)
    try:
        ended = run_program(run, tree[3])
    except OutOfUnits:
        return None
    return (ended, tuple(run.out), tuple(run.left))


def run_program(run, block):
    """Runs the block of the program, and returns how the run has ended."""
    try:
        run_block(run, Spot(None, (), 0), block)
    except Thrown as caught:
        return ("failed", caught.value)
    return ("done",)


def take_unit(run):
    if run.fuel == 0:
        raise OutOfUnits("no unit is left")
    run.fuel -= 1


def run_block(run, spot, block):
    for statement in block:
        take_unit(run)
        act = STATEMENTS[statement[0]]
        leaving = act(run, spot, statement)
        if leaving is not None:
            return leaving
    return None


def assign(run, spot, name, value):
    variables = variables_with(run, spot, name)
    variables[name] = value


def run_assign(run, spot, statement):
    """Runs a var or set statement."""
    _, _, name, right = statement
    assign(run, spot, name, right_value(run, spot, right))
    return None


def right_value(run, spot, right):
    if right[0] == "expr":
        return evaluate(run, spot, right[1])
    if right[0] == "call":
        return call_value(run, spot, right[1], right[2])
    if not run.left:
        return NONE
    return run.left.pop(0)


def call_value(run, spot, name, arguments):
    """Calls a procedure, and returns the value of the call."""
    values = [evaluate(run, spot, argument) for argument in arguments]
    if spot.calls >= CALLS:
        raise Thrown(("text", "too deep"))
    parameters, variables, block = run.procedures[name]
    own = unassigned(variables)
    for parameter, value in zip(parameters, values):
        own[parameter] = value
    leaving = run_block(run, Spot(own, (), spot.calls + 1), block)
    return NONE if leaving is None else leaving[1]


def run_set_field(run, spot, statement):
    _, _, thing, name, right = statement
    cells = cells_of(run, evaluate(run, spot, thing))
    value = evaluate(run, spot, right)
    cells[checked(field_cell(run.records, cells[0], name))] = value
    return None


def run_set_item(run, spot, statement):
    _, _, thing, number, right = statement
    cells = cells_of(run, evaluate(run, spot, thing))
    at = evaluate(run, spot, number)
    value = evaluate(run, spot, right)
    cells[checked(item_cell(cells[0], at))] = value
    return None


def run_call(run, spot, statement):
    _, _, name, arguments, _ = statement
    call_value(run, spot, name, arguments)
    return None


def run_if(run, spot, statement):
    _, _, test, yes, no = statement
    chosen = yes if checked(truth(evaluate(run, spot, test))) else no
    return run_block(run, spot, chosen)


def behind_loop(leaving):
    """Returns what leaves the blocks around a loop if this leaves its block."""
    return None if leaving[0] == "break" else leaving


def run_while(run, spot, statement):
    _, _, test, block = statement
    while checked(truth(evaluate(run, spot, test))):
        take_unit(run)
        leaving = run_block(run, spot, block)
        if leaving is not None:
            return behind_loop(leaving)
    return None


def run_for(run, spot, statement):
    _, _, counter, low, high, block, _ = statement
    first = evaluate(run, spot, low)
    last = evaluate(run, spot, high)
    if first[0] != "int" or last[0] != "int":
        raise Thrown(KIND)
    for number in range(first[1], last[1] + 1):
        take_unit(run)
        leaving = run_block(run, spot.within_turn(counter, number), block)
        if leaving is not None:
            return behind_loop(leaving)
    return None


def run_return(run, spot, statement):
    return ("return", evaluate(run, spot, statement[2]))


def run_break(run, spot, statement):
    return ("break",)


def plain_value(run, spot, tree):
    """Returns the value of an expression that must be no object."""
    value = evaluate(run, spot, tree)
    if value[0] == "object":
        raise Thrown(KIND)
    return value


def run_throw(run, spot, statement):
    raise Thrown(plain_value(run, spot, statement[2]))


def run_print(run, spot, statement):
    run.out.append(plain_value(run, spot, statement[2]))
    return None


def run_try(run, spot, statement):
    _, _, block, name, handler = statement
    try:
        return run_block(run, spot, block)
    except Thrown as caught:
        value = caught.value
    assign(run, spot, name, value)
    return run_block(run, spot, handler)


STATEMENTS = {
    "var": run_assign, "set": run_assign, "set_field": run_set_field, "set_item": run_set_item, "call": run_call,
    "if": run_if, "while": run_while, "for": run_for, "return": run_return, "break": run_break,
    "throw": run_throw, "try": run_try, "print": run_print,
}
