"""Machines that go on in rounds: each task gets one step in each round."""

from foretask.dropping import find_behind
from foretask.machine import Machine


def rounds(program, inputs, *, tasks, steps, most):
    """Returns (rounds, ended, moment, work, vain) of a new machine that makes rounds until it has ended, at most this
    many."""
    machine = Machine(program, inputs, tasks=tasks, steps=steps)
    count = 0
    while count < most and machine.ended is None:
        make_round(machine)
        count += 1
    return (count, machine.ended, machine.moment, machine.work, machine.vain)


def make_round(machine):
    """Gives each task that is in the order now one step."""
    for name in machine.order():
        # Behind a task that is too far back for a step there are only others of this kind, which may be many.
        if find_behind(machine, name) + 1 >= machine.tasks:
            return
        machine.step_task(name)
