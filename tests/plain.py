"""Part 9 of the document once more, sentence by sentence and without any regard for speed, for the tests to compare the
program with."""

from tests.support import NONE


class Plain:
    def __init__(self, entries):
        self.entries = entries
        self.count = len(entries)

    def task_of(self, step):
        return self.entries[step][1]

    def value(self, place, moment):
        """[s2]"""
        written = [entry[3] for entry in self.entries[:moment] if entry[0] == "write" and entry[2] == place]
        return written[-1] if written else NONE

    def begins(self, task):
        """[s3]"""
        return min([step for step in range(self.count) if self.task_of(step) == task], default=self.count)

    def spawned(self, task):
        found = [step for step, entry in enumerate(self.entries) if entry[0] == "spawn" and entry[2] == task]
        return found[0] if found else self.count

    def ancestors(self, task):
        """Each ancestor, with the next one of the line."""
        return [(task[:at], task[:at + 1]) for at in range(len(task))]

    def others(self, step):
        """[s4]"""
        entry = self.entries[step]
        if entry[0] != "read":
            return False
        return not any(e[0] == "write" and e[1] == entry[1] and e[2] == entry[2] for e in self.entries[:step])

    def is_allowed(self, moment, task):
        """[s5]"""
        return moment < self.begins(task) and all(
            moment < self.begins(ancestor) or moment > self.spawned(following)
            for ancestor, following in self.ancestors(task)
        )

    def allowed(self, task):
        return tuple(moment for moment in range(self.count) if self.is_allowed(moment, task))

    def in_line(self, step, task):
        """[s6]"""
        return self.task_of(step) == task or any(
            self.task_of(step) == ancestor and step < self.spawned(following)
            for ancestor, following in self.ancestors(task)
        )

    def link_steps(self, step):
        return [link for link in range(step) if self.in_line(link, self.task_of(step))
                and (self.others(link) or self.entries[link][0] == "wait")]

    def can_have_taken_place(self, link, moment):
        """[s7]"""
        if moment == link:
            return True
        if not self.others(link) or not self.is_allowed(moment, self.task_of(link)):
            return False
        _, _, place, value = self.entries[link]
        return self.value(place, moment) == value

    def links(self, step):
        rows = []
        least = 0
        for link in self.link_steps(step):
            least = min(moment for moment in range(least, link + 1) if self.can_have_taken_place(link, moment))
            rows.append((least, link))
        return tuple(rows)

    def least(self, step):
        rows = self.links(step)
        return rows[-1][0] if rows else 0

    def taken_back(self, step):
        """[s8]"""
        if not self.others(step):
            return None
        _, task, place, value = self.entries[step]
        moments = [moment for moment in range(self.least(step), self.count)
                   if self.is_allowed(moment, task) and self.value(place, moment) != value]
        if not moments:
            return None
        steps = len([entry for entry in self.entries[:step] if entry[1] == task])
        causes = [at for at in range(self.begins(task))
                  if self.entries[at][0] == "write" and self.entries[at][2] == place]
        return (task, steps, place, value, moments[0], self.value(place, moments[0]), causes[-1])

    def jobs_for(self, moment, step):
        """[s9]"""
        rows = [(moment, self.spawned(following)) for ancestor, following in self.ancestors(self.task_of(step))
                if self.begins(ancestor) > moment]
        return rows + [(moment, step)]

    def jobs(self, step):
        told = self.taken_back(step)
        if told is None:
            return None
        rows = []
        for moment, link in self.links(step):
            if moment != link:
                rows += self.jobs_for(moment, link)
        return tuple(rows + self.jobs_for(told[4], step))

    def schedule(self, step):
        """[s10]"""
        rows = self.jobs(step)
        if rows is None:
            return None
        left = list(range(self.count))
        order = []
        for moment, last in rows:
            for chosen in ([at for at in left if at < moment],
                           [at for at in left if at >= moment and at <= last and self.task_of(at) == self.task_of(last)]):
                order += chosen
                left = [at for at in left if at not in chosen]
        order += [at for at in left if at < self.begins(self.task_of(step))]
        return tuple(self.task_of(at) for at in order)
