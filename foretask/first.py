"""Steps of the first task of a machine. Each function that makes a step returns its events."""

from foretask.dropping import drop_first, drop_spawned
from foretask.publishing import first_wrong, publish
from foretask.runs import begun
from foretask.serial import child_name, next_action, step_running


def step_as_first(machine):
    """Makes one step of the first task of a machine that has not ended."""
    told = next_action(machine)
    kind = told[0]
    machine.moment += 1
    machine.work += 1
    if kind == "spawn":
        spawn_behind(machine, told)
        return []
    if kind == "give_up":
        return give_up_behind(machine, told)
    if kind == "stop":
        return hand_on(machine)
    step_running(machine, told)
    return []


def spawn_behind(machine, told):
    _, child, after = told
    machine.behind.insert(0, (child_name(machine), child, begun(child), ()))
    machine.spawned += 1
    machine.local = after


def give_up_behind(machine, told):
    _, count, after = told
    machine.local = after
    events = []
    for _ in range(count):
        if machine.behind:
            events.extend(drop_first(machine))
    return events


def hand_on(machine):
    """Ends the first task: the first one of the tasks behind becomes first, if there is one."""
    if not machine.behind:
        machine.ended = ("done",)
        return []
    name, _, run, readings = machine.behind.pop(0)
    wrong = first_wrong(readings, machine.memory)
    kept = run if wrong < 0 else readings[wrong][2]
    become_first(machine, name, kept)
    events = [("published", name, kept[4])]
    if wrong >= 0:
        machine.vain += run[4] - kept[4]
        events.append(("back", name, kept[4]))
        events.extend(drop_spawned(machine, name, machine.spawned))
    return events


def become_first(machine, name, kept):
    """Makes a task the first one, with the run of it that is kept."""
    local, writes, made, spawned, steps = kept
    publish(machine.memory, writes)
    machine.task = name
    machine.local = local
    machine.made = made
    machine.spawned = spawned
    machine.moment += steps
