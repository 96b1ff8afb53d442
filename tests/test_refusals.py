"""The ranges of the arguments, the order of the errors, and what a refusal leaves."""

import unittest

from helper import (affected, arrive, ask, clear, collect, copy, create, export, import_foreign,
                    is_current, last, lines, object_of, path, probe, read, retire, slots, stamp,
                    status, survey, update, write)

LEAST = -10 ** 18
MOST = 10 ** 18

SLOT = (0, 5)
KIND = (1, 2)

# A call that succeeds in the site below, and the range of each of its arguments.
CALLS = (
    (create(1, 1), (SLOT, (0, 4))),
    (copy(1, 0), (SLOT, SLOT)),
    (clear(1), (SLOT,)),
    (read(1, 0, 0), (SLOT, SLOT, (0, 3))),
    (write(0, 0, 1), (SLOT, (0, 3), SLOT)),
    (export(0), (SLOT,)),
    (arrive(2, 1), (None, SLOT)),
    (import_foreign(5, 1), ((1, 20), SLOT)),
    (is_current(1, 1, 2), (None, KIND, None)),
    (path(0, 1, 2), (None, KIND, None)),
    (path(2, 2, 2), (None, KIND, None)),
    (stamp(1, 2), (KIND, None)),
)


# Every slot holds an object with four fields; of these 1 is no entry and 2 is one.
# Object 1 leads to the foreign reference 7, and nothing leads to 3 and the foreign
# references 2 and 8. A survey has been made.
def site():
    calls = [create(0, 4), create(1, 4), create(2, 0), import_foreign(8, 2), import_foreign(2, 2)]
    calls += [import_foreign(7, 2), write(0, 3, 2), write(0, 2, 1), write(1, 0, 0), export(1)]
    return calls + [copy(2, 0), copy(3, 1), copy(4, 0), copy(5, 1), update()]


# The call with other values at each argument that has a range, one at a time.
def changed(values_of):
    calls = []
    for call, ranges in CALLS:
        for place, limits in enumerate(ranges, start=1):
            if limits is not None:
                calls += [call[:place] + [value] + call[place + 1:] for value in values_of(limits)]
    return calls


def outside(limits):
    return (limits[0] - 1, limits[1] + 1, LEAST, MOST)


def within(limits):
    return range(limits[0], limits[1] + 1)


# Slots 0 and 1 hold objects with one field and with none, slot 2 a foreign reference,
# slots 3 to 5 nothing; 2 is an entry, 4 is to be removed. One survey was made, and it
# has the entries 2 and 3. Each call is refused there.
def small_site():
    return [create(0, 1), create(1, 0), write(0, 0, 1), export(1), create(3, 0), export(3),
            update(), retire(3), create(3, 1), write(3, 0, 3), clear(3), import_foreign(1, 2)]


REFUSED = (
    (read(0, 3, 0), -3), (read(0, 2, 0), -3), (read(0, 5, 3), -3), (read(3, 0, 1), -5),
    (read(0, 1, 0), -5), (read(1, 1, 3), -5), (write(3, 0, 0), -3), (write(2, 0, 1), -3),
    (write(5, 3, 1), -3), (write(0, 1, 2), -5), (write(1, 0, 1), -5), (write(0, 3, 3), -5),
    (export(3), -3), (export(5), -3), (arrive(1, 3), -6), (arrive(3, 0), -6), (arrive(4, 0), -6),
    (arrive(0, 1), -6), (arrive(LEAST, 2), -6), (arrive(MOST, 5), -6), (retire(1), -6),
    (retire(3), -6), (retire(4), -6), (retire(0), -6), (retire(LEAST), -6), (retire(MOST), -6),
    (survey(0), -7), (survey(2), -7), (survey(-1), -7), (survey(LEAST), -7), (survey(MOST), -7),
    (is_current(0, 1, 2), -7), (is_current(2, 1, 2), -7), (is_current(-1, 2, 9), -7),
    (is_current(LEAST, 1, 2), -7), (is_current(MOST, 1, 2), -7), (is_current(1, 1, 1), -6),
    (is_current(1, 2, 1), -6), (is_current(1, 1, LEAST), -6), (is_current(1, 2, MOST), -6),
    (path(1, 1, 2), -6), (path(3, 1, 2), -6), (path(-1, 1, 2), -6), (path(LEAST, 2, 1), -6),
    (path(MOST, 2, 1), -6), (path(0, 1, 5), -6), (path(0, 2, 2), -6), (path(2, 1, 0), -6),
    (path(2, 1, LEAST), -6), (path(2, 2, MOST), -6), (stamp(1, 1), -6), (stamp(1, 3), -6),
    (stamp(2, 2), -6), (stamp(1, 0), -6), (stamp(2, LEAST), -6), (stamp(1, MOST), -6),
    (object_of(0), -6), (object_of(5), -6), (object_of(-1), -6), (object_of(LEAST), -6),
    (object_of(MOST), -6),
)

# Each of these is answered in the small site, and none is to change anything there.
ANSWERED = (
    (survey(1), [2, 1, 2, 1, 1, 0, 1, 3, 2, 1, 0]), (is_current(1, 1, 2), [0, 1]),
    (is_current(1, 1, 3), [0, 1]), (lines(), [2, 1, 2, 1, 0, 2, 1, 1, 0]), (affected(), [1, 0, 2]),
    (path(0, 1, 2), [1, 1, 1]), (path(2, 1, 2), [0]), (path(0, 1, 3), [0]), (stamp(1, 2), [1]),
    (stamp(2, 1), [3]), (object_of(1), [1, 1, 2]), (object_of(4), [1, 1, 4]),
    (slots(), [1, 1, 1, 2, 2, 1] + [0] * 6), (status(), [4, 4, 1, 1, 3, 1]),
)


class TestRanges(unittest.TestCase):
    def test_outside_of_its_range_each_argument_is_refused(self):
        for call in changed(outside):
            with self.subTest(call=call):
                self.assertEqual(last(*site(), call), [-1])

    def test_within_its_range_no_argument_is_refused(self):
        for call in changed(within):
            with self.subTest(call=call):
                self.assertGreaterEqual(last(*site(), call)[0], 0)

    def test_the_other_numbers_have_no_range(self):
        for number in (LEAST, -1, 0, 41, MOST):
            with self.subTest(number=number):
                given = ask(*site(), survey(number), is_current(number, 1, 2),
                            is_current(1, 1, number), is_current(1, 2, number), path(0, 1, number),
                            path(0, 2, number), stamp(1, number), stamp(2, number),
                            object_of(number))
                self.assertEqual(given[-9:], [[-7], [-7]] + [[-6]] * 7)
                self.assertEqual(last(*site(), path(number, 1, 2)), [1, 1, 1] if number == 0
                                 else [-6])

    def test_the_numbers_of_objects_have_no_range(self):
        for number in (LEAST, -1, 0, 41, MOST):
            with self.subTest(number=number):
                self.assertEqual(ask(*site(), arrive(number, 0), retire(number))[-2:],
                                 [[-6], [-6]])


class TestOrder(unittest.TestCase):
    def test_the_range_goes_ahead_of_an_empty_slot(self):
        for call in (read(6, 0, 0), read(0, 0, 4), read(-1, 0, 0), read(0, 0, -1), write(0, 4, 0),
                     write(0, 0, 6), write(0, -1, 0), write(0, 0, -1)):
            with self.subTest(call=call):
                self.assertEqual(ask(call), [[-1]])

    def test_the_range_goes_ahead_of_a_missing_field(self):
        for call in (read(6, 0, 0), read(0, 0, 4), read(LEAST, 0, 3), write(0, 4, 0),
                     write(0, 0, 6), write(0, 3, MOST)):
            with self.subTest(call=call):
                self.assertEqual(last(create(0, 0), call), [-1])

    def test_the_range_goes_ahead_of_a_missing_entry(self):
        for call in (arrive(1, 6), arrive(1, -1), arrive(LEAST, MOST)):
            with self.subTest(call=call):
                self.assertEqual(ask(call), [[-1]])

    def test_the_range_goes_ahead_of_too_many_objects(self):
        full = [create(0, 0)] * 40
        for call in (create(6, 0), create(-1, 0), create(0, 5), create(0, -1)):
            with self.subTest(call=call):
                self.assertEqual(ask(*full, call, create(0, 0))[40:], [[-1], [-8]])

    def test_the_range_goes_ahead_of_a_missing_survey_and_a_missing_name(self):
        for call in (is_current(1, 3, 1), is_current(0, 0, 0), is_current(LEAST, MOST, 1),
                     path(0, 3, 1), path(7, 0, 9), path(MOST, LEAST, MOST), stamp(0, 1),
                     stamp(3, MOST)):
            with self.subTest(call=call):
                self.assertEqual(ask(call), [[-1]])
                self.assertEqual(last(*site(), call), [-1])

    def test_the_survey_goes_ahead_of_the_name(self):
        for call in (is_current(0, 1, 9), is_current(2, 2, 20), is_current(MOST, 1, LEAST)):
            with self.subTest(call=call):
                self.assertEqual(ask(call), [[-7]])
                self.assertEqual(last(*site(), call), [-7])

    def test_the_slot_goes_ahead_of_the_field(self):
        given = ask(create(0, 0), import_foreign(1, 1), read(0, 1, 3), write(1, 3, 0),
                    read(0, 2, 3), write(2, 3, 0))
        self.assertEqual(given[2:], [[-3], [-3], [-3], [-3]])

    def test_two_arguments_out_of_their_ranges(self):
        for call in (create(6, 5), copy(-1, 6), read(6, 6, 4), write(-1, -1, -1),
                     import_foreign(0, 6), import_foreign(21, -1)):
            with self.subTest(call=call):
                self.assertEqual(last(*site(), call), [-1])


class TestNothingIsChanged(unittest.TestCase):
    # The answers to all other calls are the same with the call and without it.
    def check(self, before, call, code):
        given = ask(*before, call, *probe())
        self.assertEqual(given[len(before)], [code])
        self.assertEqual(given[:len(before)] + given[len(before) + 1:], ask(*before, *probe()))

    def test_by_an_argument_out_of_its_range(self):
        for call in changed(outside):
            with self.subTest(call=call):
                self.check(site(), call, -1)
                self.check(small_site(), call, -1)

    def test_by_the_errors_of_each_call(self):
        for call, code in REFUSED:
            with self.subTest(call=call):
                self.check(small_site(), call, code)

    def test_by_one_object_too_many(self):
        full = small_site() + [create(5, 0)] * 36
        for call in (create(0, 0), create(1, 4), create(5, 1)):
            with self.subTest(call=call):
                self.check(full, call, -8)

    def test_by_one_survey_too_many(self):
        full = [update()] * 29 + small_site()
        self.check(full, update(), -8)
        self.check(full + [copy(4, 0), export(0)], update(), -8)

    def test_by_the_calls_that_only_tell(self):
        before = small_site()
        for call, answer in ANSWERED:
            with self.subTest(call=call):
                given = ask(*before, call, *probe())
                self.assertEqual(given[len(before)], answer)
                self.assertEqual(given[:len(before)] + given[len(before) + 1:],
                                 ask(*before, *probe()))

    def test_by_all_of_them_behind_one_another(self):
        calls = small_site()
        refused = [call for call, code in REFUSED]
        given = ask(*calls, *refused, collect(), import_foreign(2, 5))
        self.assertEqual(given[len(calls):-2], [[code] for call, code in REFUSED])
        self.assertEqual(given[-2:], [[2, 3, 4, 0], [1, 4]])


if __name__ == "__main__":
    unittest.main()
