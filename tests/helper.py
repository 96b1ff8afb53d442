"""The calls by their names, and the answers to a list of them, one list each."""

from surveyline.reach import answers


def create(slot, field_count):
    return [0, slot, field_count]


def copy(target, source):
    return [1, target, source]


def clear(slot):
    return [2, slot]


def read(target, source, field):
    return [3, target, source, field]


def write(target, field, source):
    return [4, target, field, source]


def export(slot):
    return [5, slot]


def arrive(object_number, slot):
    return [6, object_number, slot]


def import_foreign(foreign, slot):
    return [7, foreign, slot]


def retire(object_number):
    return [8, object_number]


def collect():
    return [9]


def update():
    return [10]


def survey(index):
    return [11, index]


def is_current(index, kind, number):
    return [12, index, kind, number]


def lines():
    return [13]


def affected():
    return [14]


def path(source, kind, number):
    return [15, source, kind, number]


def stamp(kind, number):
    return [16, kind, number]


def object_of(number):
    return [17, number]


def slots():
    return [18]


def status():
    return [19]


def flat(calls):
    return [number for call in calls for number in call]


def ask(*calls):
    given = answers(flat(calls))
    split = []
    while given:
        count = given[0]
        split.append(given[1:1 + count])
        if len(split[-1]) != count or count == 0:
            raise AssertionError(f"{count} numbers are announced, {split[-1]} follow")
        given = given[1 + count:]
    if len(split) != len(calls):
        raise AssertionError(f"{len(calls)} calls got {len(split)} answers")
    return split


def last(*calls):
    return ask(*calls)[-1]


# The calls that change nothing, and whose answers tell all that there is: of the
# objects the first six, of the surveys the first two, with one line of each.
def look():
    calls = [slots(), status(), affected(), lines(), survey(1), survey(2)]
    calls += [object_of(number) for number in range(1, 7)]
    calls += [stamp(1, number) for number in range(1, 7)]
    calls += [stamp(2, number) for number in (1, 2, 5, 7, 8)]
    return calls + [is_current(1, 1, 2), is_current(2, 1, 2), path(0, 1, 1), path(2, 1, 2)]


# The same, then a survey, then calls that change the graph: what slot 0 holds, which
# objects are entries, what the other slots hold, how many uses there were, the fields
# of the objects, what collect removes with empty slots and without entries, which
# imports are left and how many objects have been created.
def probe():
    numbers = range(1, 7)
    calls = look() + [update(), export(0)] + [arrive(number, 0) for number in numbers]
    calls += [export(slot) for slot in range(1, 6)]
    for number in numbers:
        calls += [arrive(number, 0)] + [read(1, 0, field) for field in range(4)]
    calls += [clear(slot) for slot in range(6)] + [collect()]
    calls += [retire(number) for number in numbers] + [collect()]
    calls += [import_foreign(foreign, 0) for foreign in range(1, 21)]
    return calls + [create(0, 0), affected(), update()]


# Numbers that look drawn by lot, and are the same every time for one seed.
class Lot:
    def __init__(self, seed):
        self.state = seed * 7919 + 17

    def below(self, count):
        self.state = (self.state * 6364136223846793005 + 1442695040888963407) % 2 ** 64
        return (self.state >> 33) % count


# How often each call is to come, at the place that is its number.
OFTEN = (7, 6, 6, 10, 22, 9, 9, 4, 3, 3, 6, 2, 6, 3, 7, 8, 2, 2, 1, 1)

# Under how many numbers from 0 on each argument is drawn, at the same place: some beyond
# what there is, so that refusals come too, but few.
DRAWN = ((6, 5), (6, 6), (6,), (6, 6, 2), (6, 2, 6), (6,), (9, 6), (5, 6), (9,), (), (), (6,),
         (5, 3, 9), (), (), (9, 3, 9), (3, 9), (9,), (), ())


# Calls of all kinds, or of the kinds below the given number alone.
def drawn_calls(seed, count, kinds=20):
    lot = Lot(seed)
    places = [place for place in range(kinds) for time in range(OFTEN[place])]
    calls = [create(slot, 2) for slot in range(3)]
    while len(calls) < count:
        place = places[lot.below(len(places))]
        calls.append([place] + [lot.below(below) for below in DRAWN[place]])
    return calls
