"""What is known of a trace: where its tasks begin, and what its places hold."""

from foretask.errors import NoSuchStep
from foretask.values import NONE


class Past:
    """A trace: begun tells the step at which each task begins, spawns the step that spawns each task."""

    def __init__(self, entries):
        self.entries = entries
        self.begun = {}
        self.spawns = {}
        for step, entry in enumerate(entries):
            self.begun.setdefault(entry[1], step)
            if entry[0] == "spawn":
                self.spawns[entry[2]] = step

    def begin_of(self, task):
        """Returns the step at which a task begins; the number of entries if it makes no step."""
        return self.begun.get(task, len(self.entries))

    def spawn_of(self, task):
        """Returns the step that spawns a task; the number of entries if there is none."""
        return self.spawns.get(task, len(self.entries))

    def line_to(self, task):
        """Returns (ancestor, step) for each ancestor of a task, the shortest name first: the step is the one that
        spawns the next one of the line from the ancestor to the task."""
        return [(task[:count], self.spawn_of(task[:count + 1])) for count in range(len(task))]

    def allowed_moments(self, task):
        """Returns the moments that are allowed for a task, in ascending order."""
        barred = {}
        for ancestor, spawn in self.line_to(task):
            for moment in range(self.begin_of(ancestor), spawn + 1):
                barred[moment] = True
        return [moment for moment in range(self.begin_of(task)) if moment not in barred]


def check_step(entries, step):
    """Raises NoSuchStep if the trace has no entry with this number."""
    if step >= len(entries):
        raise NoSuchStep(step)


def value_before(entries, place, moment):
    """Returns the value of a place at a moment."""
    held = NONE
    for entry in entries[:moment]:
        if is_write(entry, place):
            held = entry[3]
    return held


def values_in_time(entries, place):
    """Returns the values of a place at all moments, from 0 to the number of entries."""
    row = [NONE]
    for entry in entries:
        row.append(entry[3] if is_write(entry, place) else row[-1])
    return row


def is_write(entry, place):
    """Tells whether an entry writes a place."""
    return entry[0] == "write" and entry[2] == place


def reads_others(entries, step):
    """Tells whether a step reads of others."""
    entry = entries[step]
    if entry[0] != "read":
        return False
    _, task, place, _ = entry
    return not [earlier for earlier in entries[:step] if earlier[1] == task and is_write(earlier, place)]
