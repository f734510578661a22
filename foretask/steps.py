"""What the next step of a local state does."""

from foretask.computing import COMPUTING
from foretask.controlling import CONTROLLING
from foretask.reaching import REACHING
from foretask.values import TOP

WAITING = ("output", "input", "give_up", "stop", "fail")


def beginning():
    """Returns the local state with which a program begins."""
    return (0, (), TOP, TOP, ())


def action(program, local):
    """Returns the action of a local state."""
    instruction = program.code[local[0]]
    kind = instruction[0]
    if kind in COMPUTING:
        act = COMPUTING[kind]
    elif kind in REACHING:
        act = REACHING[kind]
    else:
        act = CONTROLLING[kind]
    return act(program, local, instruction)


def with_value(rest, value):
    """Returns the local state with a value on top of its operands."""
    address, operands, frame, top, control = rest
    return (address, (value,) + operands, frame, top, control)


def with_object(rest, use, thing):
    """Returns the local state with a new object where its use says."""
    if use == "operand":
        return with_value(rest, thing)
    address, operands, _, top, control = rest
    return (address, operands, thing, thing if use == "both" else top, control)


def waits(kind):
    """Tells whether a task behind the first one waits for its turn with actions of this kind."""
    return kind in WAITING
