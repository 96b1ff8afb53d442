"""The surveys of one graph."""

from surveyline.graph import OBJECT

# A source is told by its number: this one for the slots, or that of an entry.
SLOTS = 0


class Line:
    def __init__(self, stamp, rooted, sources):
        self.stamp = stamp
        self.rooted = rooted
        self.sources = sources


def count_objects(values):
    return len([value for value in values if value[0] == OBJECT])


# Keeps the lines of each survey by their names, and of the last one also what
# each source led to: there a source that isn't affected need not be followed again.
class Surveys:
    def __init__(self, graph):
        self.graph = graph
        self.made = []
        self.last_reached = {}

    # The slots, then the entries in increasing order.
    def all_sources(self):
        return [SLOTS] + [name[1] for name in self.graph.entries()]

    def is_affected(self, source):
        if len(self.made) == 0:
            return True
        if source == SLOTS and self.graph.slot_changed:
            return True
        if (OBJECT, source) in self.graph.new_names:
            return True
        reached = self.last_reached[source]
        return any([changed in reached for changed in self.graph.changed_objects])

    def affected_sources(self):
        return [source for source in self.all_sources() if self.is_affected(source)]

    def follow(self, source):
        if source == SLOTS:
            return self.graph.led_to(self.graph.slots)
        return self.graph.led_to([(OBJECT, source)])

    # What each source leads to now.
    def all_reached(self):
        reached = {}
        for source in self.all_sources():
            if self.is_affected(source):
                reached[source] = self.follow(source)
            else:
                reached[source] = self.last_reached[source]
        return reached

    # The work of a survey that is made now, with what each source leads to.
    def work_of(self, reached):
        return sum([count_objects(reached[source]) for source in self.affected_sources()])

    # The lines of a survey that is made now, by their names and in their order.
    def lines_now(self):
        return self.lines_from(self.all_reached())

    def lines_from(self, reached):
        entries = self.graph.entries()
        lines = {}
        for name in sorted(self.graph.stamps):
            rooted = 1 if name in reached[SLOTS] else 0
            others = [entry[1] for entry in entries if entry != name]
            sources = [source for source in others if name in reached[source]]
            lines[name] = Line(self.graph.stamps[name], rooted, sources)
        return lines

    # Gives back the work.
    def make(self):
        reached = self.all_reached()
        work = self.work_of(reached)
        self.made.append(self.lines_from(reached))
        self.last_reached = reached
        self.graph.forget_changes()
        return work

    # The lines of the survey with this number, or None if there is no such survey.
    def lines_of(self, index):
        if 1 <= index <= len(self.made):
            return self.made[index - 1]
        return None

    # Of the name and then the sources of its line, the first that was used or
    # removed since the survey with these lines; None if there is none.
    def first_outdated(self, lines, name):
        for relied_on in [name] + [(OBJECT, source) for source in lines[name].sources]:
            if self.graph.stamps.get(relied_on) != lines[relied_on].stamp:
                return relied_on
        return None
