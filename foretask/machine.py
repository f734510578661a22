"""A machine: its first task does what the sequential run does, and the tasks behind it run before their turn."""

from foretask.dropping import find_behind
from foretask.early import lose_run, step_early
from foretask.first import step_as_first
from foretask.serial import value_of
from foretask.steps import action, beginning, waits


class Machine:
    """A machine at its beginning. A task behind the first one is (name, begin, run, readings)."""

    def __init__(self, program, inputs, *, tasks, steps):
        self.program = program
        self.tasks = tasks
        self.steps = steps
        self.memory = {}
        self.out = []
        self.left = list(inputs)
        self.task = ()
        self.local = beginning()
        self.made = 0
        self.spawned = 0
        self.behind = []
        self.ended = None
        self.moment = 0
        self.work = 0
        self.vain = 0

    def __len__(self):
        return len(self.order())

    def step_task(self, task):
        """Makes one step of a task if it may make one; returns the events."""
        if self.ended is not None:
            return []
        if task == self.task:
            return step_as_first(self)
        at = find_behind(self, task)
        if at >= 0:
            step_early(self, at)
        return []

    def step_all(self, names):
        """Makes one step of each of these tasks; returns the events."""
        events = []
        for name in names:
            events.extend(self.step_task(name))
        return events

    def step_first(self, count):
        """Makes this many steps of the first task, whichever it is; returns the events."""
        events = []
        for _ in range(count):
            # The count may be far beyond the end.
            if self.ended is not None:
                return events
            events.extend(step_as_first(self))
        return events

    def lose(self, task, at=None):
        """Loses the run of a task behind the first one, from a reading on or wholly; returns the events."""
        found = find_behind(self, task)
        if self.ended is not None or found < 0:
            return []
        return lose_run(self, found, at)

    def order(self):
        """Returns the names of the tasks in their order."""
        return tuple([self.task] + [name for name, _, _, _ in self.behind])

    def readings_of(self, task):
        """Returns (place, value, steps) for each reading of a task."""
        at = find_behind(self, task)
        if at < 0:
            return ()
        return tuple([(place, value, run[4]) for place, value, run in self.behind[at][3]])

    def value_at(self, place):
        """Returns what the memory holds at a place."""
        return value_of(self.memory, place)

    def look(self):
        """Returns (moment, work, vain, ended, out, tasks)."""
        rows = [(self.task, 0, 0, False)] + [seen(self.program, row) for row in self.behind]
        return (self.moment, self.work, self.vain, self.ended, tuple(self.out), tuple(rows))


def seen(program, row):
    """Returns (task, steps, readings, waits) for a task behind the first one."""
    name, _, run, readings = row
    told = action(program, run[0])
    return (name, run[4], len(readings), waits(told[0]))
