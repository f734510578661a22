"""The trace of a sequential run: what others can notice of its steps."""

from foretask.serial import Serial, child_name, next_action, serial_step, value_of
from foretask.steps import waits


def trace(program, inputs, limit):
    """Returns the entries of the steps of the sequential run, up to the limit or to its end."""
    run = Serial(program, inputs)
    entries = []
    for _ in range(limit):
        told = next_action(run)
        if told is None:
            return tuple(entries)
        entries.append(entry_of(run, told))
        serial_step(run)
    return tuple(entries)


def entry_of(run, told):
    """Returns the entry of the next step of a run, whose action is told."""
    kind = told[0]
    if kind == "read":
        return ("read", run.task, told[1], value_of(run.memory, told[1]))
    if kind == "write":
        return ("write", run.task, told[1], told[2])
    if kind == "spawn":
        return ("spawn", run.task, child_name(run))
    if waits(kind):
        return ("wait", run.task)
    return ("other", run.task)
