"""A list of calls, and the answers to them."""

from surveyline.changes import change
from surveyline.codes import OUT_OF_RANGE
from surveyline.graph import Graph
from surveyline.questions import FIRST_QUESTION, respond
from surveyline.surveys import Surveys

# The arguments of each operation, at the place that is the operation's number.
# The source of path has another name here: it is no slot and has no range.
SIGNATURES = (
    ("slot", "field_count"),
    ("target", "source"),
    ("slot",),
    ("target", "source", "field"),
    ("target", "field", "source"),
    ("slot",),
    ("object_number", "slot"),
    ("foreign", "slot"),
    ("object_number",),
    (),
    (),
    ("index",),
    ("index", "kind", "number"),
    (),
    (),
    ("path_source", "kind", "number"),
    ("kind", "number"),
    ("number",),
    (),
    (),
)

# The least and the greatest; an argument that is not named here has no range.
RANGES = {
    "slot": (0, 5),
    "target": (0, 5),
    "source": (0, 5),
    "field_count": (0, 4),
    "field": (0, 3),
    "foreign": (1, 20),
    "kind": (1, 2),
}


def in_range(name, argument):
    limits = RANGES.get(name)
    return limits is None or limits[0] <= argument <= limits[1]


def answer_call(surveys, operation, arguments):
    for name, argument in zip(SIGNATURES[operation], arguments):
        if not in_range(name, argument):
            return [OUT_OF_RANGE]
    if operation < FIRST_QUESTION:
        return change(surveys.graph, operation, arguments)
    return respond(surveys, operation, arguments)


def answers(calls):
    surveys = Surveys(Graph())
    given = []
    place = 0
    while place < len(calls):
        operation = calls[place]
        behind = place + 1 + len(SIGNATURES[operation])
        answer = answer_call(surveys, operation, calls[place + 1:behind])
        given.append(len(answer))
        given.extend(answer)
        place = behind
    return given
