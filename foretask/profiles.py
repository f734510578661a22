"""What the tasks of a trace can lose, and because of which writes."""

from foretask.back import cause_of, fault_moment
from foretask.course import Course
from foretask.values import TOP


def profile(entries):
    """Returns the profiles of all tasks that make a step, in the order in which they begin."""
    course = Course(entries)
    rows = {}
    for step, entry in enumerate(entries):
        rows.setdefault(entry[1], []).append(step)
    return tuple([profile_of(course, task, steps) for task, steps in rows.items()])


def profile_of(course, task, steps):
    """Returns (task, begins, steps, waits, back, lost) of a task with its steps."""
    waits = len([step for step in steps if course.past.entries[step][0] == "wait"])
    back = [step for step in steps if fault_moment(course, step) is not None]
    lost = len([step for step in steps if step >= back[0]]) if back else 0
    return (task, steps[0], len(steps), waits, tuple(back), lost)


def dependences(entries):
    """Returns the pairs (cause, step) of all steps that can be taken back, in ascending order of the steps."""
    course = Course(entries)
    back = [step for step in range(len(entries)) if fault_moment(course, step) is not None]
    return tuple([(cause_of(course.past, step), step) for step in back])


def without_variables(entries, numbers):
    """Returns the trace in which nobody notices the variables of the program with these numbers."""
    _, task, thing = TOP
    places = [(task, thing, number) for number in numbers]
    return tuple([hidden(entry, places) for entry in entries])


def hidden(entry, places):
    if entry[0] in ("read", "write") and entry[2] in places:
        return ("other", entry[1])
    return entry
