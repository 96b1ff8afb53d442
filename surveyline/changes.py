"""The calls that change the graph."""

from surveyline.codes import NO_SUCH_FIELD, NO_SUCH_NAME, NOT_IN_SLOT, TOO_MANY
from surveyline.graph import FOREIGN, NOTHING, OBJECT

MOST_OBJECTS = 40


def create_object(graph, arguments):
    if graph.created >= MOST_OBJECTS:
        return [TOO_MANY]
    made = graph.create(arguments[1])
    graph.put(arguments[0], made)
    return [made[1]]


def copy_slot(graph, arguments):
    graph.put(arguments[0], graph.slots[arguments[1]])
    return [0]


def clear_slot(graph, arguments):
    graph.put(arguments[0], (NOTHING, 0))
    return [0]


# The error code for a field of what a slot holds, or None if there is the field.
def field_refusal(graph, holder, field):
    if holder[0] != OBJECT:
        return NOT_IN_SLOT
    if field >= len(graph.fields[holder[1]]):
        return NO_SUCH_FIELD
    return None


def read_field(graph, arguments):
    holder = graph.slots[arguments[1]]
    field = arguments[2]
    refusal = field_refusal(graph, holder, field)
    if refusal is not None:
        return [refusal]
    value = graph.fields[holder[1]][field]
    graph.put(arguments[0], value)
    return list(value)


def write_field(graph, arguments):
    holder = graph.slots[arguments[0]]
    field = arguments[1]
    refusal = field_refusal(graph, holder, field)
    if refusal is not None:
        return [refusal]
    changed = graph.write(holder[1], field, graph.slots[arguments[2]])
    return [1 if changed else 0]


def export_slot(graph, arguments):
    name = graph.slots[arguments[0]]
    if name[0] == NOTHING:
        return [NOT_IN_SLOT]
    return [name[0], name[1], graph.use(name)]


def arrive_entry(graph, arguments):
    name = (OBJECT, arguments[0])
    if name not in graph.stamps:
        return [NO_SUCH_NAME]
    graph.put(arguments[1], name)
    return [graph.use(name)]


def import_foreign(graph, arguments):
    name = (FOREIGN, arguments[0])
    is_new = 0 if name in graph.stamps else 1
    graph.put(arguments[1], name)
    return [is_new, graph.use(name)]


def retire_entry(graph, arguments):
    name = (OBJECT, arguments[0])
    if name not in graph.stamps:
        return [NO_SUCH_NAME]
    graph.stamps.pop(name)
    return [0]


def collect_garbage(graph, arguments):
    removed = graph.collect()
    freed = removed[0]
    given_up = removed[1]
    return [len(freed)] + freed + [len(given_up)] + given_up


# The calls from 0 on, each at the place that is its number.
CHANGES = (
    create_object,
    copy_slot,
    clear_slot,
    read_field,
    write_field,
    export_slot,
    arrive_entry,
    import_foreign,
    retire_entry,
    collect_garbage,
)


def change(graph, operation, arguments):
    act = CHANGES[operation]
    return act(graph, arguments)
