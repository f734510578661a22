"""Steps and losses of the tasks behind the first one of a machine. A task is told by its number among them."""

from foretask.dropping import drop_spawned
from foretask.runs import begun, run_step


def may_step(machine, at):
    """Tells whether the window of the machine lets a task make a step."""
    # The first task is the number 0 of the order, so the tasks behind it begin with 1.
    return at + 1 < machine.tasks and machine.behind[at][2][4] < machine.steps


def step_early(machine, at):
    """Makes one step of a task, unless the window or its action lets it wait."""
    if not may_step(machine, at):
        return
    name, begin, run, readings = machine.behind[at]
    stepped = run_step(machine.program, name, run, machine.memory)
    if stepped is None:
        return
    after, reading, child = stepped
    if reading is not None:
        readings = readings + (reading,)
    machine.behind[at] = (name, begin, after, readings)
    machine.work += 1
    if child is not None:
        spawned, local = child
        machine.behind.insert(at + 1, (spawned, local, begun(local), ()))


def lose_run(machine, at, number):
    """Loses the run of a task, from its reading with this number on, wholly if it is None; returns the events."""
    name, begin, run, readings = machine.behind[at]
    left, kept = left_run(begin, run, readings, number)
    machine.behind[at] = (name, begin, left, kept)
    machine.vain += run[4] - left[4]
    return [("lost", name, left[4])] + drop_spawned(machine, name, left[3])


def left_run(begin, run, readings, number):
    """Returns the run and the readings that are left of a task."""
    if number is None:
        return begun(begin), ()
    if number >= len(readings):
        return run, readings
    return readings[number][2], readings[:number]
