"""Dropping tasks behind the first one of a machine. Each function that drops tasks returns the events."""


def find_behind(machine, task):
    """Returns the number of a task among those behind the first one; -1 if it is none of them."""
    for at, row in enumerate(machine.behind):
        if row[0] == task:
            return at
    return -1


def comes_from(task, other):
    """Tells whether a task comes from another one."""
    return task[:len(other)] == other


def spawned_since(name, task, spawned):
    """Tells whether a name comes from what a task spawned after it had spawned this many tasks."""
    return len(name) > len(task) and comes_from(name, task) and name[len(task)] >= spawned


def drop_spawned(machine, task, spawned):
    """Drops the tasks that come from what a task spawned after it had spawned this many tasks."""
    return drop_tasks(machine, [row for row in machine.behind if spawned_since(row[0], task, spawned)])


def drop_first(machine):
    """Drops the first of the tasks behind, with all tasks that come from it."""
    first = machine.behind[0][0]
    return drop_tasks(machine, [row for row in machine.behind if comes_from(row[0], first)])


def drop_tasks(machine, rows):
    names = {name: True for name, _, _, _ in rows}
    machine.behind = [row for row in machine.behind if row[0] not in names]
    # The steps of a run are its last part.
    machine.vain += sum([run[4] for _, _, run, _ in rows])
    return [("dropped", name) for name, _, _, _ in rows]
