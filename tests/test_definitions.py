"""Whole lists of calls against the document's definitions, each written down as it stands."""

import unittest

from helper import ask, drawn_calls, update

NOTHING = (0, 0)


# Every question is answered from the objects and from what has happened, all of it
# looked through anew each time.
class Plain:
    def __init__(self):
        self.created = self.uses = 0
        self.slots = [NOTHING] * 6
        self.fields = {}
        self.stamps = {}
        self.surveys = []
        self.happened = []
        self.led_then = {}

    def entries(self):
        return sorted(number for kind, number in self.stamps if kind == 1)

    def sources(self):
        return [0] + self.entries()

    def leads(self, source):
        led = {value for value in (self.slots if source == 0 else [(1, source)])}
        while True:
            further = {value for kind, number in led if kind == 1 for value in self.fields[number]}
            if further <= led:
                return led - {NOTHING}
            led |= further

    def objects(self, source):
        return {number for kind, number in self.leads(source) if kind == 1}

    def is_affected(self, source):
        if not self.surveys:
            return True
        if source == 0 and ("slot",) in self.happened:
            return True
        if source > 0 and (source not in self.led_then or ("retired", source) in self.happened):
            return True
        return any(("field", number) in self.happened for number in self.led_then[source])

    def lines(self):
        return [(name, self.stamps[name], 1 if name in self.leads(0) else 0,
                 [entry for entry in self.entries()
                  if name != (1, entry) and name in self.leads(entry)])
                for name in sorted(self.stamps)]

    def work(self):
        return sum(len(self.objects(source)) for source in self.sources() if self.is_affected(source))

    def put(self, slot, value):
        if self.slots[slot] != value:
            self.happened.append(("slot",))
        self.slots[slot] = value

    def use(self, name):
        self.uses += 1
        self.stamps[name] = self.uses
        return self.uses

    # How many indices each value is away from the goal at least, the last one at it.
    def distances(self, goal):
        away = {goal: 0}
        for count in range(1, 42):
            for number, values in self.fields.items():
                if any(away.get(value) == count - 1 for value in values):
                    away.setdefault((1, number), count)
        return away

    def first_path(self, source, goal):
        away = self.distances(goal)
        values = self.slots if source == 0 else self.fields[source]
        path = []
        while True:
            least = min((away[value] for value in values if value in away), default=None)
            if least is None:
                return None
            index = [away.get(value) for value in values].index(least)
            path.append(index)
            if least == 0:
                return path
            values = self.fields[values[index][1]]

    def answer(self, call):
        return getattr(self, f"call_{call[0]}")(*call[1:])

    def call_0(self, slot, field_count):
        self.created += 1
        self.fields[self.created] = [NOTHING] * field_count
        self.put(slot, (1, self.created))
        return [self.created]

    def call_1(self, target, source):
        self.put(target, self.slots[source])
        return [0]

    def call_2(self, slot):
        self.put(slot, NOTHING)
        return [0]

    def refusal(self, slot, field):
        kind, number = self.slots[slot]
        if kind != 1:
            return [-3]
        return [] if field < len(self.fields[number]) else [-5]

    def call_3(self, target, source, field):
        refusal = self.refusal(source, field)
        if refusal:
            return refusal
        self.put(target, self.fields[self.slots[source][1]][field])
        return list(self.slots[target])

    def call_4(self, target, field, source):
        refusal = self.refusal(target, field)
        if refusal:
            return refusal
        number = self.slots[target][1]
        if self.fields[number][field] == self.slots[source]:
            return [0]
        self.fields[number][field] = self.slots[source]
        self.happened.append(("field", number))
        return [1]

    def call_5(self, slot):
        name = self.slots[slot]
        return [-3] if name == NOTHING else [*name, self.use(name)]

    def call_6(self, number, slot):
        if (1, number) not in self.stamps:
            return [-6]
        self.put(slot, (1, number))
        return [self.use((1, number))]

    def call_7(self, foreign, slot):
        if foreign == 0:
            return [-1]
        is_new = 0 if (2, foreign) in self.stamps else 1
        self.put(slot, (2, foreign))
        return [is_new, self.use((2, foreign))]

    def call_8(self, number):
        if (1, number) not in self.stamps:
            return [-6]
        self.stamps.pop((1, number))
        self.happened.append(("retired", number))
        return [0]

    def call_9(self):
        led = set().union(*(self.leads(source) for source in self.sources()))
        freed = [number for number in sorted(self.fields) if (1, number) not in led]
        given_up = [name[1] for name in sorted(self.stamps) if name not in led]
        for number in freed:
            self.fields.pop(number)
        for number in given_up:
            self.stamps.pop((2, number))
        return [len(freed), *freed, len(given_up), *given_up]

    def call_10(self):
        if len(self.surveys) == 30:
            return [-8]
        work = self.work()
        self.surveys.append(self.lines())
        self.led_then = {source: self.objects(source) for source in self.sources()}
        self.happened = []
        return [len(self.surveys), work, len(self.stamps)]

    def call_11(self, index):
        if not 1 <= index <= len(self.surveys):
            return [-7]
        lines = self.surveys[index - 1]
        return [len(lines)] + [number for name, stamp, rooted, sources in lines
                               for number in (*name, stamp, rooted, len(sources), *sources)]

    def call_12(self, index, kind, number):
        if kind == 0:
            return [-1]
        if not 1 <= index <= len(self.surveys):
            return [-7]
        lines = {line[0]: line[1:] for line in self.surveys[index - 1]}
        if (kind, number) not in lines:
            return [-6]
        stamp, rooted, sources = lines[(kind, number)]
        if rooted:
            return [0, 1]
        for name in [(kind, number)] + [(1, source) for source in sources]:
            if name not in self.stamps or self.stamps[name] != lines[name][0]:
                return [0, 2, *name]
        return [1]

    def call_13(self):
        return [len(self.stamps)] + [number for name, stamp, rooted, sources in self.lines()
                                     for number in (*name, rooted, len(sources), *sources)]

    def call_14(self):
        entries = [entry for entry in self.entries() if self.is_affected(entry)]
        return [1 if self.is_affected(0) else 0, len(entries), *entries, self.work()]

    def call_15(self, source, kind, number):
        if kind == 0:
            return [-1]
        if source not in self.sources():
            return [-6]
        if number not in self.fields if kind == 1 else (2, number) not in self.stamps:
            return [-6]
        path = self.first_path(source, (kind, number))
        return [0] if path is None else [1, len(path), *path]

    def call_16(self, kind, number):
        if kind == 0:
            return [-1]
        return [self.stamps.get((kind, number), -6)]

    def call_17(self, number):
        if number not in self.fields:
            return [-6]
        values = self.fields[number]
        return [len(values)] + [part for value in values for part in value]

    def call_18(self):
        return [part for value in self.slots for part in value]

    def call_19(self):
        names = [kind for kind, number in self.stamps]
        return [self.created, len(self.fields), names.count(1), names.count(2), self.uses,
                len(self.surveys)]


class TestDrawnCalls(unittest.TestCase):
    def check(self, calls):
        plain = Plain()
        expected = [plain.answer(call) for call in calls]
        for place, (answer, wanted) in enumerate(zip(ask(*calls), expected)):
            self.assertEqual(answer, wanted, f"call {place} of {calls[:place + 1]}")
        return expected

    def test_every_call(self):
        answered = {}
        for seed in range(150):
            with self.subTest(seed=seed):
                calls = drawn_calls(seed, 200)
                for call, answer in zip(calls, self.check(calls)):
                    answered.setdefault(call[0], set()).add(len(answer) > 1 or answer[0] >= 0)
        # All of them were answered, and those that may be refused were refused as well.
        for place in range(20):
            refusable = place in (3, 4, 5, 6, 7, 8, 11, 12, 15, 16, 17)
            self.assertEqual(answered[place], {True, False} if refusable else {True})

    def test_a_survey_behind_every_change(self):
        for seed in range(150, 250):
            with self.subTest(seed=seed):
                calls = drawn_calls(seed, 30, 10)
                surveyed = [part for call in calls for part in (call, [14], update(), update())]
                expected = self.check(surveyed + [[11, index] for index in range(1, 31)])
                second = [answer for answer in expected[3:4 * 15:4]]
                self.assertEqual([answer[1] for answer in second], [0] * 15)


if __name__ == "__main__":
    unittest.main()
