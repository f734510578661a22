"""Runs of tasks that run before their turn: (local, writes, made, spawned, steps)."""

from foretask.serial import value_of
from foretask.steps import action, waits, with_object, with_value


def begun(local):
    """Returns the run of no steps that begins with a local state."""
    return (local, (), 0, 0, 0)


def run_step(program, task, run, memory):
    """Returns (run, reading, child) behind one step of the run of a task; None if the task waits."""
    local, writes, made, spawned, steps = run
    told = action(program, local)
    kind = told[0]
    if waits(kind):
        return None
    if kind == "read":
        return read_step(run, memory, told)
    if kind == "write":
        _, place, value, after = told
        return ((after, written(writes, place, value), made, spawned, steps + 1), None, None)
    if kind == "make":
        _, use, rest = told
        after = with_object(rest, use, ("object", task, made))
        return ((after, writes, made + 1, spawned, steps + 1), None, None)
    if kind == "spawn":
        _, child, after = told
        return ((after, writes, made, spawned + 1, steps + 1), None, (task + (spawned,), child))
    return ((told[1], writes, made, spawned, steps + 1), None, None)


def read_step(run, memory, told):
    """Returns what run_step does for an action that reads."""
    _, writes, made, spawned, steps = run
    _, place, rest = told
    value = written_value(writes, place)
    reading = None
    if value is None:
        value = value_of(memory, place)
        reading = (place, value, run)
    return ((with_value(rest, value), writes, made, spawned, steps + 1), reading, None)


def written_value(writes, place):
    """Returns what a run has written to a place; None if it has not."""
    for other, value in writes:
        if other == place:
            return value
    return None


def written(writes, place, value):
    """Returns the writes of a run with one more, the newest first and each place once."""
    return ((place, value),) + tuple([pair for pair in writes if pair[0] != place])
