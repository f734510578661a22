"""The sequential run: one task runs at a time, and the others wait for it. The functions of the table are steps of
a task that runs, told by an action; they serve the first task of a machine too, which has the same fields."""

from foretask.memory import put_value
from foretask.steps import action, beginning, with_object, with_value
from foretask.values import NONE


class Serial:
    """A sequential run of a program, at its beginning."""

    def __init__(self, program, inputs):
        self.program = program
        self.memory = {}
        self.out = []
        self.left = list(inputs)
        self.task = ()
        self.local = beginning()
        self.made = 0
        self.spawned = 0
        self.behind = []
        self.ended = None
        self.moment = 0


def value_of(memory, place):
    """Returns what a place holds."""
    return memory.get(place, NONE)


def next_action(run):
    """Returns the action of the next step; None if the run has ended."""
    if run.ended is not None:
        return None
    return action(run.program, run.local)


def serial_step(run):
    """Makes one step, and tells whether the run had not ended."""
    told = next_action(run)
    if told is None:
        return False
    kind = told[0]
    if kind == "spawn":
        spawn_next(run, told)
    elif kind == "give_up":
        give_up_next(run, told)
    elif kind == "stop":
        begin_next(run)
    else:
        step_running(run, told)
    run.moment += 1
    return True


def run_serial(program, inputs, limit):
    """Returns a new run after this many steps, or at its end."""
    run = Serial(program, inputs)
    for _ in range(limit):
        if not serial_step(run):
            return run
    return run


def spawn_next(run, told):
    _, child, after = told
    run.behind.insert(0, (child_name(run), child))
    run.spawned += 1
    run.local = after


def child_name(run):
    """Returns the name of the task that the task that runs spawns next."""
    return run.task + (run.spawned,)


def give_up_next(run, told):
    _, count, after = told
    del run.behind[:count]
    run.local = after


def begin_next(run):
    """Ends the task that runs: the first one that waits runs now."""
    if not run.behind:
        run.ended = ("done",)
        return
    run.task, run.local = run.behind.pop(0)
    run.made = 0
    run.spawned = 0


def step_running(run, told):
    """Makes the step of an action that changes neither the tasks nor which of them runs."""
    step = RUNNING[told[0]]
    step(run, told)


def step_quiet(run, told):
    run.local = told[1]


def step_read(run, told):
    _, place, rest = told
    run.local = with_value(rest, value_of(run.memory, place))


def step_write(run, told):
    _, place, value, after = told
    put_value(run.memory, place, value)
    run.local = after


def step_make(run, told):
    _, use, rest = told
    run.local = with_object(rest, use, ("object", run.task, run.made))
    run.made += 1


def step_output(run, told):
    _, value, after = told
    run.out.append(value)
    run.local = after


def step_input(run, told):
    value = run.left.pop(0) if run.left else NONE
    run.local = with_value(told[1], value)


def step_fail(run, told):
    run.ended = ("failed", told[1])


RUNNING = {
    "quiet": step_quiet, "read": step_read, "write": step_write, "make": step_make, "output": step_output,
    "input": step_input, "fail": step_fail,
}
