"""Machines from their images."""

from foretask.errors import BadImage
from foretask.machine import Machine
from foretask.taking import Row, take_behind, take_end, take_list, take_local, take_memory, take_task, take_value


def restore(program, numbers, *, tasks, steps):
    """Returns the machine with this window whose image is this row of integers."""
    row = Row(numbers)
    machine = Machine(program, (), tasks=tasks, steps=steps)
    machine.memory = take_memory(row)
    machine.out = list(take_list(row, take_value))
    machine.left = list(take_list(row, take_value))
    machine.task = take_task(row)
    machine.local = take_local(row)
    machine.made = row.natural()
    machine.spawned = row.natural()
    machine.behind = list(take_list(row, take_behind))
    machine.ended = take_end(row)
    machine.moment = row.natural()
    machine.work = row.natural()
    machine.vain = row.natural()
    if row.at < len(numbers):
        raise BadImage(row.at)
    return machine
