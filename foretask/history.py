"""What can be asked about the sequential run of a program: its states, and what happens to its variables."""

from foretask.errors import UnknownVariable
from foretask.serial import run_serial, value_of
from foretask.told import line_of, steps_told
from foretask.values import NONE, TOP


def state_at(program, inputs, moment):
    """Returns (ended, task, line, calls, variables, globals, out, left, behind) at a moment."""
    run = run_serial(program, inputs, moment)
    calls = [address - 1 for address in return_addresses(run.local)]
    own = ()
    if calls:
        _, number, _ = program.code[calls[0]]
        _, names, _ = program.procedures[number]
        own = pairs_of(run.memory, run.local[2], names)
    return (
        run.ended,
        run.task,
        line_of(program, run.local),
        tuple([program.lines[call] for call in calls]),
        own,
        pairs_of(run.memory, TOP, program.variables),
        tuple(run.out),
        len(run.left),
        tuple([name for name, _ in run.behind]),
    )


def return_addresses(local):
    """Returns the addresses at which the calls go on that a local state is in, the innermost first."""
    return [entry[1] for entry in local[4] if entry[0] == "call"]


def pairs_of(memory, thing, names):
    """Returns (name, value) for each of the variables that an object holds."""
    _, task, number = thing
    return tuple([(name, value_of(memory, (task, number, cell))) for cell, name in enumerate(names)])


def place_named(program, name):
    """Returns the place of a variable of the program."""
    if name not in program.variables:
        raise UnknownVariable(name)
    _, task, number = TOP
    return (task, number, program.variables.index(name))


def reaches(told, kind, place):
    """Tells whether an action is of this kind, read or write, and does it to this place."""
    return told[0] == kind and told[1] == place


def changes(program, inputs, limit, name):
    """Returns (moment, value) for each change of a variable of the program in the first steps."""
    place = place_named(program, name)
    held = NONE
    found = []
    for step, (_, _, told) in enumerate(steps_told(program, inputs, limit)):
        if reaches(told, "write", place) and told[2] != held:
            held = told[2]
            found.append((step + 1, held))
    return tuple(found)


def reason(program, inputs, moment, name):
    """Returns (step, task, line) of the last step before a moment that writes a variable of the program; None if
    there is none."""
    place = place_named(program, name)
    found = None
    for step, (task, line, told) in enumerate(steps_told(program, inputs, moment)):
        if reaches(told, "write", place):
            found = (step, task, line)
    return found


def readers(program, inputs, first, last, name):
    """Returns the steps from the first one on and before the last one that read a variable of the program."""
    place = place_named(program, name)
    rows = steps_told(program, inputs, last)
    return tuple([step for step, row in enumerate(rows) if step >= first and reaches(row[2], "read", place)])


def visits(program, inputs, limit, line):
    """Returns the moments before the limit at which a task comes to a line."""
    found = []
    before = None
    for step, (task, here, _) in enumerate(steps_told(program, inputs, limit)):
        if here == line and (task, here) != before:
            found.append(step)
        before = (task, here)
    return tuple(found)
