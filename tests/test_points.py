"""The seven requirements, seen from the answers alone."""

import unittest

from helper import (affected, arrive, ask, clear, collect, copy, create, drawn_calls, export,
                    import_foreign, is_current, lines, object_of, path, read, retire, slots, stamp,
                    status, survey, update, write)

OBJECTS = range(1, 10)
NAMES = [(1, number) for number in OBJECTS] + [(2, number) for number in range(1, 5)]
SURVEYS = range(1, 9)


# An answer of survey (with stamps) or of lines: by each name its stamp, rooted and sources.
def lines_told(answer, with_stamps):
    told = {}
    place = 1
    while place < len(answer):
        name = tuple(answer[place:place + 2])
        place += 2
        line_stamp = answer[place] if with_stamps else None
        place += 1 if with_stamps else 0
        rooted, count = answer[place:place + 2]
        told[name] = (line_stamp, rooted, answer[place + 2:place + 2 + count])
        place += 2 + count
    assert len(told) == answer[0]
    return told


def pairs(numbers):
    return list(zip(numbers[::2], numbers[1::2]))


# What is there behind the calls: the values in the slots, and the fields by their objects.
def seen(calls):
    given = ask(*calls, slots(), *[object_of(number) for number in OBJECTS])[len(calls):]
    fields = {number: pairs(answer[1:]) for number, answer in zip(OBJECTS, given[1:])
              if answer != [-6]}
    return pairs(given[0]), fields


def led_to(values, fields):
    led = set()
    waiting = [value for value in values if value != (0, 0)]
    while waiting:
        value = waiting.pop()
        if value not in led:
            led.add(value)
            if value[0] == 1:
                waiting += [further for further in fields[value[1]] if further != (0, 0)]
    return led


# Lists of calls that change the graph and make surveys, each with all its beginnings.
def beginnings(seed):
    calls = [call for call in drawn_calls(seed, 60, 11) if call[0] != 0 or call[2] < 4][:45]
    few = []
    for call in calls:
        if call[0] != 0 or sum(one[0] == 0 for one in few) < len(OBJECTS):
            few.append(call)
    return [few[:count] for count in range(3, len(few) + 1)]


def entries_of(calls):
    given = ask(*calls, *[stamp(1, number) for number in OBJECTS])[len(calls):]
    return [number for number, answer in zip(OBJECTS, given) if answer != [-6]]


class TestPoint1(unittest.TestCase):
    def test_the_lines_follow_from_the_objects(self):
        for seed in range(20):
            for calls in beginnings(seed):
                given = ask(*calls, lines(), update(), survey(ask(*calls, status())[-1][5] + 1))
                held, fields = seen(calls)
                entries = entries_of(calls)
                expected = {}
                for name in NAMES:
                    name_stamp = ask(*calls, stamp(*name))[-1][0]
                    if name_stamp > 0:
                        sources = [entry for entry in entries if (1, entry) != name
                                   and name in led_to([(1, entry)], fields)]
                        rooted = 1 if name in led_to(held, fields) else 0
                        expected[name] = (name_stamp, rooted, sources)
                told = lines_told(given[-1], True)
                self.assertEqual(list(told.items()), list(expected.items()), calls)
                self.assertEqual(given[-2][2], len(expected), calls)
                self.assertEqual(list(lines_told(given[-3], False).items()),
                                 [(name, (None,) + line[1:]) for name, line in expected.items()])

    def test_a_further_survey_has_no_work(self):
        for seed in range(20):
            for calls in beginnings(seed):
                given = ask(*calls, update(), affected(), update())
                self.assertEqual([given[-2], given[-1][1]], [[0, 0, 0], 0], calls)


class TestPoints2And3(unittest.TestCase):
    # Which lines of which surveys are current behind the calls, with their lines.
    def current(self, calls):
        surveys = ask(*calls, *[survey(index) for index in SURVEYS])[len(calls):]
        found = {}
        for index, answer in zip(SURVEYS, surveys):
            told = {} if answer == [-7] else lines_told(answer, True)
            names = list(told)
            given = ask(*calls, *[is_current(index, *name) for name in names])[len(calls):]
            for name, one in zip(names, given):
                found[(index, name)] = (one == [1], told[name])
        return found

    def stamps(self, calls):
        given = ask(*calls, *[stamp(*name) for name in NAMES])[len(calls):]
        return {name: answer[0] for name, answer in zip(NAMES, given)}

    def test_what_a_current_line_says_holds_now(self):
        count = 0
        for seed in range(30):
            for calls in beginnings(seed):
                now = lines_told(ask(*calls, lines())[-1], False)
                for (index, name), (is_so, line) in self.current(calls).items():
                    if is_so:
                        count += 1
                        self.assertEqual(now[name][1], 0, (calls, index, name))
                        self.assertLessEqual(set(now[name][2]), set(line[2]), (calls, index, name))
        self.assertGreater(count, 100)

    def test_a_line_stays_current_until_a_use_or_a_removal(self):
        ended = 0
        for seed in range(90):
            before = {}
            stamps_before = {}
            for calls in beginnings(seed):
                now = self.current(calls)
                stamps_now = self.stamps(calls)
                for key, (was_so, line) in before.items():
                    relied_on = [key[1]] + [(1, source) for source in line[2]]
                    same = all(stamps_before[name] == stamps_now[name] for name in relied_on)
                    self.assertEqual(now[key][0], was_so and same, (calls, key))
                    ended += was_so and not same
                before, stamps_before = now, stamps_now
        self.assertGreater(ended, 20)


class TestPoint4(unittest.TestCase):
    def test_what_a_program_gets_and_changes(self):
        for seed in range(20):
            held, fields = [(0, 0)] * 6, {}
            for calls in beginnings(seed)[1:]:
                held, fields = seen(calls[:-1])
                held_then, fields_then = seen(calls)
                call = calls[-1]
                allowed = led_to(held, fields) | {(0, 0)}
                allowed |= {(1, number) for number in fields_then if number not in fields}
                allowed |= {(1, call[1])} if call[0] == 6 else set()
                allowed |= {(2, call[1])} if call[0] == 7 else set()
                self.assertLessEqual(set(held_then), allowed, calls)
                for number in set(fields) & set(fields_then):
                    if fields[number] != fields_then[number]:
                        self.assertIn((1, number), led_to(held, fields), calls)
                        self.assertEqual(call[0], 4, calls)


class TestPoint5(unittest.TestCase):
    # A path is followed, and all that are ahead of it in their order are no paths.
    def end_of(self, values, fields, indices):
        for place, index in enumerate(indices):
            if index >= len(values):
                return None
            value = values[index]
            if place < len(indices) - 1:
                if value[0] != 1:
                    return None
                values = fields[value[1]]
        return value

    def ahead_of(self, width, indices):
        for length in range(1, len(indices) + 1):
            ways = [[]]
            for place in range(length):
                ways = [way + [index] for way in ways for index in range(6 if place == 0 else width)]
            yield from [way for way in ways if length < len(indices) or way < indices]

    def test_it_is_there_when_the_values_lead_and_it_is_the_first(self):
        longest = 0
        for seed in range(40):
            calls = beginnings(seed)[-1]
            held, fields = seen(calls)
            for source in [0] + entries_of(calls):
                values = held if source == 0 else fields[source]
                goals = [name for name in NAMES if ask(*calls, path(0, *name))[-1] != [-6]]
                given = ask(*calls, *[path(source, *goal) for goal in goals])[len(calls):]
                for goal, answer in zip(goals, given):
                    self.assertEqual(answer[0], 1 if goal in led_to(values, fields) else 0, calls)
                    if answer[0] == 1:
                        self.assertEqual(answer[1], len(answer) - 2)
                        self.assertEqual(self.end_of(values, fields, answer[2:]), goal)
                        longest = max(longest, answer[1])
                        for way in self.ahead_of(4, answer[2:]):
                            self.assertNotEqual(self.end_of(values, fields, way), goal, calls)
        self.assertGreater(longest, 2)


class TestPoint6(unittest.TestCase):
    def test_collect_removes_what_no_source_leads_to(self):
        removed = 0
        for seed in range(20):
            for calls in beginnings(seed):
                held, fields = seen(calls)
                led = led_to(held + [(1, entry) for entry in entries_of(calls)], fields)
                imports = [name[1] for name in NAMES
                           if name[0] == 2 and ask(*calls, stamp(*name))[-1] != [-6]]
                freed = [number for number in sorted(fields) if (1, number) not in led]
                given_up = [number for number in imports if (2, number) not in led]
                self.assertEqual(ask(*calls, collect())[-1],
                                 [len(freed), *freed, len(given_up), *given_up], calls)
                removed += len(freed)
                self.assertEqual(seen(calls + [collect()]),
                                 (held, {number: fields[number] for number in fields
                                         if number not in freed}), calls)
        self.assertGreater(removed, 20)

    def test_the_other_lines_and_the_work_remain(self):
        for seed in range(20):
            for calls in beginnings(seed):
                kept = ask(*calls, lines(), affected(), update())[-3:]
                given = ask(*calls, collect(), lines(), affected(), update())[-4:]
                gone = given[0][given[0][0] + 2:]
                expected = {name: line for name, line in lines_told(kept[0], False).items()
                            if name[0] == 1 or name[1] not in gone}
                self.assertEqual(lines_told(given[1], False), expected, calls)
                self.assertEqual(given[2], kept[1], calls)
                self.assertEqual(given[3], kept[2][:2] + [len(expected)], calls)


class TestPoint7(unittest.TestCase):
    # Behind the calls, the object in the slot is made one to which no source leads.
    def cut(self, calls, number):
        held, fields = seen(calls)
        leading = [entry for entry in entries_of(calls)
                   if (1, number) in led_to([(1, entry)], fields)]
        return [clear(slot) for slot in range(6)] + [retire(entry) for entry in leading]

    def later(self, number):
        objects = [object_of(other) for other in OBJECTS if other != number]
        tell = [lines(), affected(), status(), slots()] + objects
        tell += [stamp(*name) for name in NAMES] + [path(0, *name) for name in NAMES]
        entries = [arrive(other, other % 6) for other in OBJECTS]
        return tell + [update(), survey(1), survey(2)] + entries + tell + [update()] + \
            [create(0, 1), import_foreign(1, 1), write(0, 0, 1), export(0), copy(2, 3)] + tell + \
            [collect(), update(), lines()] + objects

    def test_the_fields_of_such_an_object_have_no_influence(self):
        differed = 0
        for seed in range(20):
            for calls in beginnings(seed)[::3]:
                held = seen(calls)[0]
                for slot in range(6):
                    if held[slot][0] != 1:
                        continue
                    number = held[slot][1]
                    rest = self.cut(calls, number)
                    tail = self.later(number)
                    plain = ask(*calls, *rest, object_of(number), *tail)
                    changed = ask(*calls, write(slot, 0, (slot + 1) % 6), *rest, object_of(number),
                                  *tail)
                    self.assertEqual(changed[-len(tail):], plain[-len(tail):], (calls, slot))
                    differed += changed[-len(tail) - 1] != plain[-len(tail) - 1]
        self.assertGreater(differed, 20)

    def test_an_object_without_a_source_is_told_as_it_stands(self):
        calls = [create(0, 1), create(1, 1), export(1), write(0, 0, 1), read(2, 0, 0), update(),
                 clear(0), object_of(1), affected(), lines()]
        given = ask(*calls)
        self.assertEqual(given[-3:], [[1, 1, 2], [1, 0, 1], [1, 1, 2, 1, 0]])


if __name__ == "__main__":
    unittest.main()
