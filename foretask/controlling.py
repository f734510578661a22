"""The actions of the instructions that look at the control, or change it. Each function of the table returns the
action of a local state at its instruction, in a program."""

from foretask.bounds import CALLS
from foretask.leaving import leave, passing, thrown
from foretask.states import controlled, fault, gone_on, gone_to, put
from foretask.values import NONE


def within(local, operands, entry):
    """Returns the quiet action that puts an entry innermost."""
    return ("quiet", controlled(local, operands, (entry,) + local[4]))


def do_counter(program, local, instruction):
    return put(local, counter_value(local[4], instruction[1]), local[1])


def counter_value(control, number):
    """Returns the counter of the entry count with this number, NONE if the call has no such entry."""
    passed = 0
    for entry in control:
        if entry[0] == "call":
            return NONE
        if entry[0] == "count":
            if passed == number:
                return ("int", entry[2])
            passed += 1
    return NONE


def do_call(program, local, instruction):
    _, number, count = instruction
    address, operands, frame, top, control = local
    if len([entry for entry in control if entry[0] == "call"]) >= CALLS:
        return fault(local, "too deep")
    _, _, begin = program.procedures[number]
    return ("make", "frame", (begin, operands[:count], frame, top, (("call", address + 1, frame),) + control))


def do_return(program, local, instruction):
    _, operands, _, top, control = local
    cuts, entry, rest = leave(control, "call")
    _, address, frame = entry
    return passing(cuts, (address, (operands[0],), frame, top, rest))


def do_break(program, local, instruction):
    _, _, frame, top, control = local
    cuts, entry, rest = leave(control, "loop")
    return passing(cuts, (entry[1], (), frame, top, rest))


def do_throw(program, local, instruction):
    value = local[1][0]
    if value[0] == "object":
        return fault(local, "kind")
    return thrown(local, value)


def do_guard(program, local, instruction):
    return within(local, local[1], ("guard", instruction[1], local[2]))


def do_loop(program, local, instruction):
    return within(local, local[1], ("loop", instruction[1]))


def do_each(program, local, instruction):
    operands = local[1]
    high, low = operands[:2]
    if low[0] != "int" or high[0] != "int":
        return fault(local, "kind")
    return within(local, operands[2:], ("count", instruction[1], low[1], high[1]))


def do_leave_entry(program, local, instruction):
    return ("quiet", controlled(local, local[1], local[4][1:]))


def do_test(program, local, instruction):
    _, _, counter, last = local[4][0]
    if counter > last:
        return ("quiet", gone_to(local, instruction[1], local[1]))
    return ("quiet", gone_on(local, local[1]))


def do_next(program, local, instruction):
    _, operands, frame, top, control = local
    kind, end, counter, last = control[0]
    return ("quiet", (instruction[1], operands, frame, top, ((kind, end, counter + 1, last),) + control[1:]))


def do_spawn(program, local, instruction):
    _, operands, _, _, control = local
    return ("spawn", gone_to(local, instruction[1], operands), controlled(local, operands, (("cut",),) + control))


def do_stop(program, local, instruction):
    return ("stop",)


CONTROLLING = {
    "counter": do_counter, "call": do_call, "return": do_return, "break": do_break, "throw": do_throw,
    "guard": do_guard, "unguard": do_leave_entry, "loop": do_loop, "end_loop": do_leave_entry, "each": do_each,
    "test": do_test, "next": do_next, "spawn": do_spawn, "finish": do_stop, "halt": do_stop,
}
