"""Which steps of a trace some schedule takes back, and because of which write."""

from foretask.course import Course
from foretask.past import check_step, is_write, values_in_time


def taken_back(entries, step):
    """Returns (task, steps, place, value, moment, seen, cause) of a step; None if it can't be taken back."""
    check_step(entries, step)
    return back_of(Course(entries), step)


def back_of(course, step):
    """Returns what taken_back tells of a step."""
    moment = fault_moment(course, step)
    if moment is None:
        return None
    past = course.past
    _, task, place, value = past.entries[step]
    steps = len([entry for entry in past.entries[:step] if entry[1] == task])
    seen = values_in_time(past.entries, place)[moment]
    return (task, steps, place, value, moment, seen, cause_of(past, step))


def fault_moment(course, step):
    """Returns the moment of the fault of a step; None if the step can't be taken back."""
    if not course.others[step]:
        return None
    _, task, place, value = course.past.entries[step]
    held = values_in_time(course.past.entries, place)
    for moment in course.past.allowed_moments(task):
        if moment >= course.least[step] and held[moment] != value:
            return moment
    return None


def cause_of(past, step):
    """Returns the last step that writes the place of a step before the task of the step begins."""
    _, task, place, _ = past.entries[step]
    before = past.entries[:past.begin_of(task)]
    return [at for at, entry in enumerate(before) if is_write(entry, place)][-1]
