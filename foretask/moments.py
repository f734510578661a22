"""Moments of a trace: what places hold, where tasks begin, which moments are allowed for them, and the least moments
at which the links of a step can have taken place."""

from foretask.course import Course, links_of
from foretask.past import Past, check_step, reads_others, value_before


def place_at(entries, place, moment):
    """Returns the value of a place at a moment."""
    return value_before(entries, place, moment)


def begins(entries, task):
    """Returns the step at which a task begins; the number of entries if it makes no step."""
    return Past(entries).begin_of(task)


def spawned_at(entries, task):
    """Returns the step that spawns a task; the number of entries if there is none."""
    return Past(entries).spawn_of(task)


def reads_of_others(entries, step):
    """Tells whether a step reads a place that its task has not written before."""
    check_step(entries, step)
    return reads_others(entries, step)


def allowed(entries, task):
    """Returns the moments at which a task can run before its turn, in ascending order."""
    return tuple(Past(entries).allowed_moments(task))


def links(entries, step):
    """Returns the pairs (moment, link) of the links of a step, each link behind its least moment."""
    check_step(entries, step)
    return tuple(links_of(Course(entries), step))
