"""The calls on one graph, and their answers."""

from surveyline.graph import FOREIGN, NOTHING, OBJECT, Graph

OUT_OF_RANGE = -1
NOT_IN_SLOT = -3
NO_SUCH_FIELD = -5
NO_SUCH_NAME = -6
TOO_MANY = -8

MOST_OBJECTS = 40

# The arguments of each operation, at the place that is the operation's number.
SIGNATURES = (
    ("slot", "field_count"),
    ("target", "source"),
    ("slot",),
    ("target", "source", "field"),
    ("target", "field", "source"),
    ("slot",),
    ("object_number", "slot"),
    ("foreign", "slot"),
    ("object_number",),
    (),
)

# The least and the greatest; an argument that is not named here has no range.
RANGES = {
    "slot": (0, 5),
    "target": (0, 5),
    "source": (0, 5),
    "field_count": (0, 4),
    "field": (0, 3),
    "foreign": (1, 20),
}


def create_object(graph, arguments):
    if graph.created >= MOST_OBJECTS:
        return [TOO_MANY]
    made = graph.create(arguments[1])
    graph.put(arguments[0], made)
    return [made[1]]


def copy_slot(graph, arguments):
    graph.put(arguments[0], graph.slots[arguments[1]])
    return [0]


def clear_slot(graph, arguments):
    graph.put(arguments[0], (NOTHING, 0))
    return [0]


# The error code for a field of what a slot holds, or None if there is the field.
def field_refusal(graph, holder, field):
    if holder[0] != OBJECT:
        return NOT_IN_SLOT
    if field >= len(graph.fields[holder[1]]):
        return NO_SUCH_FIELD
    return None


def read_field(graph, arguments):
    holder = graph.slots[arguments[1]]
    field = arguments[2]
    refusal = field_refusal(graph, holder, field)
    if refusal is not None:
        return [refusal]
    value = graph.fields[holder[1]][field]
    graph.put(arguments[0], value)
    return list(value)


def write_field(graph, arguments):
    holder = graph.slots[arguments[0]]
    field = arguments[1]
    refusal = field_refusal(graph, holder, field)
    if refusal is not None:
        return [refusal]
    changed = graph.write(holder[1], field, graph.slots[arguments[2]])
    return [1 if changed else 0]


def export_slot(graph, arguments):
    name = graph.slots[arguments[0]]
    if name[0] == NOTHING:
        return [NOT_IN_SLOT]
    return [name[0], name[1], graph.use(name)]


def arrive_entry(graph, arguments):
    name = (OBJECT, arguments[0])
    if name not in graph.stamps:
        return [NO_SUCH_NAME]
    graph.put(arguments[1], name)
    return [graph.use(name)]


def import_foreign(graph, arguments):
    name = (FOREIGN, arguments[0])
    is_new = 0 if name in graph.stamps else 1
    graph.put(arguments[1], name)
    return [is_new, graph.use(name)]


def retire_entry(graph, arguments):
    name = (OBJECT, arguments[0])
    if name not in graph.stamps:
        return [NO_SUCH_NAME]
    graph.stamps.pop(name)
    return [0]


def collect_garbage(graph, arguments):
    removed = graph.collect()
    freed = removed[0]
    given_up = removed[1]
    return [len(freed)] + freed + [len(given_up)] + given_up


# In the order of SIGNATURES.
OPERATIONS = (
    create_object,
    copy_slot,
    clear_slot,
    read_field,
    write_field,
    export_slot,
    arrive_entry,
    import_foreign,
    retire_entry,
    collect_garbage,
)


def in_range(name, argument):
    limits = RANGES.get(name)
    return limits is None or limits[0] <= argument <= limits[1]


def answer_call(graph, operation, arguments):
    for name, argument in zip(SIGNATURES[operation], arguments):
        if not in_range(name, argument):
            return [OUT_OF_RANGE]
    act = OPERATIONS[operation]
    return act(graph, arguments)


def answers(calls):
    graph = Graph()
    given = []
    place = 0
    while place < len(calls):
        operation = calls[place]
        behind = place + 1 + len(SIGNATURES[operation])
        answer = answer_call(graph, operation, calls[place + 1:behind])
        given.append(len(answer))
        given.extend(answer)
        place = behind
    return given
