"""Schedules that take a step of a trace back."""

from foretask.back import fault_moment
from foretask.course import Course, links_of
from foretask.past import check_step


def jobs(entries, step):
    """Returns the pairs (moment, step) that the schedule of a step has to do; None if it can't be taken back."""
    check_step(entries, step)
    return jobs_of(Course(entries), step)


def jobs_of(course, step):
    """Returns what jobs tells of a step."""
    fault = fault_moment(course, step)
    if fault is None:
        return None
    rows = []
    for moment, link in links_of(course, step):
        # A link whose least moment is its own step takes place when its turn has come.
        if moment != link:
            rows.extend(jobs_for(course.past, moment, link))
    return tuple(rows + jobs_for(course.past, fault, step))


def jobs_for(past, moment, step):
    """Returns the jobs that bring a step about at a moment: those that spawn its task first."""
    line = past.line_to(past.entries[step][1])
    rows = [(moment, spawn) for ancestor, spawn in line if past.begin_of(ancestor) > moment]
    return rows + [(moment, step)]


def schedule(entries, step):
    """Returns the tasks whose steps take a step back, in their order; None if it can't be taken back."""
    check_step(entries, step)
    course = Course(entries)
    rows = jobs_of(course, step)
    if rows is None:
        return None
    begin = course.past.begin_of(entries[step][1])
    return tuple([entries[taken][1] for taken in steps_in_order(entries, rows, begin)])


def steps_in_order(entries, rows, begin):
    """Returns the steps of a schedule: those of its jobs, and then the others before a step."""
    left = [True] * len(entries)
    taken = []
    for moment, last in rows:
        take(left, taken, list(range(moment)))
        take(left, taken, steps_up_to(entries, last))
    take(left, taken, list(range(begin)))
    return taken


def steps_up_to(entries, last):
    """Returns the steps of the task of a step, up to this step."""
    task = entries[last][1]
    return [step for step, entry in enumerate(entries[:last + 1]) if entry[1] == task]


def take(left, taken, steps):
    """Takes those of the steps that are left."""
    for step in steps:
        if left[step]:
            left[step] = False
            taken.append(step)
