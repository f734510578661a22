"""Advice on the lines of a program that spawn tasks."""

from foretask.back import cause_of
from foretask.past import Past
from foretask.profiles import profile
from foretask.told import steps_told
from foretask.trace import trace


def advice(program, inputs, limit):
    """Returns (line, tasks, back, lost, blamed) for each line that spawns a task, in ascending order."""
    entries = trace(program, inputs, limit)
    lines = [line for _, line, _ in steps_told(program, inputs, limit)]
    past = Past(entries)
    profiles = {row[0]: row for row in profile(entries)}
    tasks = {}
    for step, entry in enumerate(entries):
        if entry[0] == "spawn":
            tasks.setdefault(lines[step], []).append(entry[2])
    rows = []
    for line in sorted(tasks):
        found = [profiles[task] for task in tasks[line] if task in profiles]
        blamed = [lines[cause_of(past, step)] for row in found for step in row[4]]
        rows.append(advice_of(line, found, blamed))
    return tuple(rows)


def advice_of(line, profiles, blamed):
    """Returns the advice for a line: the profiles are those of its tasks, blamed the lines of the causes."""
    back = len([row for row in profiles if row[4]])
    lost = sum([row[5] for row in profiles])
    return (line, len(profiles), back, lost, tuple(sorted(set(blamed))))
