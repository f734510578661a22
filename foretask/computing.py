"""The actions of the instructions that look at their operands alone. Each function of the table returns the action
of a local state at its instruction, in a program."""

from foretask.cells import array_size
from foretask.operators import both, negative, opposite, truth
from foretask.states import fault, gone_on, gone_to, put, put_answer


def do_push(program, local, instruction):
    return put(local, instruction[1], local[1])


def do_not(program, local, instruction):
    operands = local[1]
    return put_answer(local, opposite(operands[0]), operands[1:])


def do_minus(program, local, instruction):
    operands = local[1]
    return put_answer(local, negative(operands[0]), operands[1:])


def do_both(program, local, instruction):
    operands = local[1]
    # The right operand lies on top of the left one.
    return put_answer(local, both(instruction[1], operands[1], operands[0]), operands[2:])


def do_jump(program, local, instruction):
    return ("quiet", gone_to(local, instruction[1], local[1]))


def do_jump_not(program, local, instruction):
    operands = local[1]
    said, found = truth(operands[0])
    if said == "error":
        return fault(local, found)
    if found:
        return ("quiet", gone_on(local, operands[1:]))
    return ("quiet", gone_to(local, instruction[1], operands[1:]))


def do_and_jump(program, local, instruction):
    return jump_with(local, False, instruction[1])


def do_or_jump(program, local, instruction):
    return jump_with(local, True, instruction[1])


def jump_with(local, deciding, address):
    """Returns the action that goes to an address with the operand on top if it is the deciding truth, and goes on
    without it otherwise."""
    operands = local[1]
    said, found = truth(operands[0])
    if said == "error":
        return fault(local, found)
    if found == deciding:
        return ("quiet", gone_to(local, address, operands))
    return ("quiet", gone_on(local, operands[1:]))


def do_sized(program, local, instruction):
    operands = local[1]
    if operands[0][0] != "int":
        return fault(local, "kind")
    return ("quiet", gone_on(local, operands))


def do_check_size(program, local, instruction):
    operands = local[1]
    return put_answer(local, array_size(operands[0]), operands[1:])


def do_drop(program, local, instruction):
    return ("quiet", gone_on(local, local[1][1:]))


def do_print(program, local, instruction):
    operands = local[1]
    if operands[0][0] == "object":
        return fault(local, "kind")
    return ("output", operands[0], gone_on(local, operands[1:]))


def do_input(program, local, instruction):
    return ("input", gone_on(local, local[1]))


COMPUTING = {
    "push": do_push, "not": do_not, "minus": do_minus, "both": do_both, "jump": do_jump, "jump_not": do_jump_not,
    "and_jump": do_and_jump, "or_jump": do_or_jump, "sized": do_sized, "check_size": do_check_size, "drop": do_drop,
    "print": do_print, "input": do_input,
}
