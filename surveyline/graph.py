"""The objects, slots and names of one request, and what was changed since its last survey."""

NOTHING = 0
OBJECT = 1
FOREIGN = 2
SLOT_COUNT = 6


# A value is its kind and its number, and so is a name: a name can be looked
# up as it stands in a slot or a field, and sorted names have the entries first.
class Graph:
    def __init__(self):
        self.created = 0
        self.uses = 0
        self.slots = [(NOTHING, 0)] * SLOT_COUNT
        self.fields = {}
        self.stamps = {}
        self.forget_changes()

    # What decides which sources are affected begins anew with each survey.
    def forget_changes(self):
        self.slot_changed = False
        self.changed_objects = {}
        self.new_names = {}

    def create(self, field_count):
        self.created += 1
        self.fields[self.created] = [(NOTHING, 0)] * field_count
        return (OBJECT, self.created)

    def put(self, slot, value):
        if self.slots[slot] != value:
            self.slot_changed = True
        self.slots[slot] = value

    # Gives back whether the field had another value.
    def write(self, number, field, value):
        changed = self.fields[number][field] != value
        if changed:
            self.changed_objects[(OBJECT, number)] = True
        self.fields[number][field] = value
        return changed

    # An entry that was retired and is exported again is as new as one that was none before.
    def use(self, name):
        if name not in self.stamps:
            self.new_names[name] = True
        self.uses += 1
        self.stamps[name] = self.uses
        return self.uses

    def entries(self):
        return [name for name in sorted(self.stamps) if name[0] == OBJECT]

    def imports(self):
        return [name for name in sorted(self.stamps) if name[0] == FOREIGN]

    # Whether there is the object, entry or not, or the import.
    def contains(self, value):
        return value[1] in self.fields if value[0] == OBJECT else value in self.stamps

    # The objects and foreign references among the given values, and all that
    # the fields of these objects lead to; a dict, so that each is asked for at once.
    def led_to(self, values):
        reached = {}
        waiting = list(values)
        while len(waiting) > 0:
            value = waiting.pop()
            if value[0] == NOTHING or value in reached:
                continue
            reached[value] = True
            if value[0] == OBJECT:
                waiting.extend(self.fields[value[1]])
        return reached

    # Gives back the numbers of the objects and of the imports that are removed.
    def collect(self):
        reached = self.led_to(self.slots + self.entries())
        freed = [number for number in sorted(self.fields) if (OBJECT, number) not in reached]
        given_up = [name[1] for name in self.imports() if name not in reached]
        for number in freed:
            self.fields.pop(number)
        for number in given_up:
            self.stamps.pop((FOREIGN, number))
        return (freed, given_up)
