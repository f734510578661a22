"""The moments from which on the steps of a trace can take place."""

from foretask.past import Past, reads_others, values_in_time


class Course:
    """A trace with the moments of its steps: others tells whether each step reads of others; least the least moment
    of each step; links the least moment of each step as a link, None for a step that is no link."""

    def __init__(self, entries):
        self.past = Past(entries)
        self.others = [reads_others(entries, step) for step in range(len(entries))]
        self.least = []
        self.links = []
        # The least moment of the last link that is in the line of each task up to now. A task has the links of the
        # task that spawns it, as far as they come before the spawn.
        reached = {}
        for step, entry in enumerate(entries):
            task = entry[1]
            reached.setdefault(task, 0)
            self.least.append(reached[task])
            self.links.append(link_moment(self, step, reached[task]))
            if self.links[step] is not None:
                reached[task] = self.links[step]
            if entry[0] == "spawn":
                reached[entry[2]] = reached[task]


def link_moment(course, step, bound):
    """Returns the least moment of a step as a link, not less than a bound; None if the step is no link."""
    entry = course.past.entries[step]
    if entry[0] == "wait":
        return step
    if not course.others[step]:
        return None
    _, task, place, value = entry
    held = values_in_time(course.past.entries, place)
    for moment in course.past.allowed_moments(task):
        if moment >= bound and held[moment] == value:
            return moment
    return step


def links_of(course, step):
    """Returns the pairs (moment, link) of the links of a step, in ascending order of the links."""
    past = course.past
    task = past.entries[step][1]
    # Up to where the steps of each task are in the line; the line ends with the steps before this one.
    ends = dict(past.line_to(task))
    ends[task] = step
    rows = []
    for link, moment in enumerate(course.links):
        # A step of another task is in no line to this one.
        if moment is not None and link < ends.get(past.entries[link][1], 0):
            rows.append((moment, link))
    return rows
