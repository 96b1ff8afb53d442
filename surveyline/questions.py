"""The calls that make surveys, and those that change nothing."""

from surveyline.codes import NO_SUCH_NAME, NO_SUCH_SURVEY, TOO_MANY
from surveyline.graph import OBJECT
from surveyline.paths import first_path
from surveyline.surveys import SLOTS

MOST_SURVEYS = 30


def counted(numbers):
    return [len(numbers)] + numbers


def flat_values(values):
    numbers = []
    for value in values:
        numbers.extend(value)
    return numbers


def make_survey(surveys, arguments):
    if len(surveys.made) >= MOST_SURVEYS:
        return [TOO_MANY]
    work = surveys.make()
    return [len(surveys.made), work, len(surveys.made[-1])]


def tell_survey(surveys, arguments):
    lines = surveys.lines_of(arguments[0])
    if lines is None:
        return [NO_SUCH_SURVEY]
    answer = [len(lines)]
    for name, line in lines.items():
        answer.extend([name[0], name[1], line.stamp, line.rooted] + counted(line.sources))
    return answer


def tell_current(surveys, arguments):
    lines = surveys.lines_of(arguments[0])
    name = (arguments[1], arguments[2])
    if lines is None:
        return [NO_SUCH_SURVEY]
    if name not in lines:
        return [NO_SUCH_NAME]
    if lines[name].rooted == 1:
        return [0, 1]
    outdated = surveys.first_outdated(lines, name)
    if outdated is not None:
        return [0, 2, outdated[0], outdated[1]]
    return [1]


def tell_lines(surveys, arguments):
    lines = surveys.lines_now()
    answer = [len(lines)]
    for name, line in lines.items():
        answer.extend([name[0], name[1], line.rooted] + counted(line.sources))
    return answer


def tell_affected(surveys, arguments):
    affected = surveys.affected_sources()
    slots = 1 if SLOTS in affected else 0
    entries = [source for source in affected if source != SLOTS]
    return [slots] + counted(entries) + [surveys.work_of(surveys.all_reached())]


def tell_path(surveys, arguments):
    graph = surveys.graph
    source = arguments[0]
    goal = (arguments[1], arguments[2])
    if source != SLOTS and (OBJECT, source) not in graph.stamps:
        return [NO_SUCH_NAME]
    if not graph.contains(goal):
        return [NO_SUCH_NAME]
    path = first_path(graph, graph.slots if source == SLOTS else graph.fields[source], goal)
    if path is None:
        return [0]
    return [1] + counted(path)


def tell_stamp(surveys, arguments):
    stamp = surveys.graph.stamps.get((arguments[0], arguments[1]))
    return [NO_SUCH_NAME] if stamp is None else [stamp]


def tell_object(surveys, arguments):
    fields = surveys.graph.fields.get(arguments[0])
    if fields is None:
        return [NO_SUCH_NAME]
    return [len(fields)] + flat_values(fields)


def tell_slots(surveys, arguments):
    return flat_values(surveys.graph.slots)


def tell_status(surveys, arguments):
    graph = surveys.graph
    names = [len(graph.entries()), len(graph.imports())]
    return [graph.created, len(graph.fields)] + names + [graph.uses, len(surveys.made)]


# The calls from 10 on, in the order of their numbers.
QUESTIONS = (
    make_survey,
    tell_survey,
    tell_current,
    tell_lines,
    tell_affected,
    tell_path,
    tell_stamp,
    tell_object,
    tell_slots,
    tell_status,
)

FIRST_QUESTION = 10


def respond(surveys, operation, arguments):
    act = QUESTIONS[operation - FIRST_QUESTION]
    return act(surveys, arguments)
