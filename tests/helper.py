"""The calls by their names, and the answers to a list of them, one list each."""

from surveyline.reach import answers


def create(slot, field_count):
    return [0, slot, field_count]


def copy(target, source):
    return [1, target, source]


def clear(slot):
    return [2, slot]


def read(target, source, field):
    return [3, target, source, field]


def write(target, field, source):
    return [4, target, field, source]


def export(slot):
    return [5, slot]


def arrive(object_number, slot):
    return [6, object_number, slot]


def import_foreign(foreign, slot):
    return [7, foreign, slot]


def retire(object_number):
    return [8, object_number]


def collect():
    return [9]


def flat(calls):
    return [number for call in calls for number in call]


def ask(*calls):
    given = answers(flat(calls))
    split = []
    while given:
        count = given[0]
        split.append(given[1:1 + count])
        if len(split[-1]) != count or count == 0:
            raise AssertionError(f"{count} numbers are announced, {split[-1]} follow")
        given = given[1 + count:]
    if len(split) != len(calls):
        raise AssertionError(f"{len(calls)} calls got {len(split)} answers")
    return split


def last(*calls):
    return ask(*calls)[-1]


# Calls whose answers show what slot 0 holds, which objects are entries, what the
# other slots hold, how many uses there were, the fields of all objects seen so far,
# what collect removes with empty slots and without entries, which imports are left
# and how many objects have been created. Of the objects, the first six are asked for.
def probe():
    numbers = range(1, 7)
    calls = [export(0)] + [arrive(number, 0) for number in numbers]
    calls += [export(slot) for slot in range(1, 6)]
    for number in numbers:
        calls += [arrive(number, 0)] + [read(1, 0, field) for field in range(4)]
    calls += [clear(slot) for slot in range(6)] + [collect()]
    calls += [retire(number) for number in numbers] + [collect()]
    calls += [import_foreign(foreign, 0) for foreign in range(1, 21)]
    return calls + [create(0, 0)]
