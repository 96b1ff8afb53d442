"""The one list that is handed in, and the one that is given back."""

import unittest

from helper import (affected, arrive, ask, clear, collect, copy, create, export, flat,
                    import_foreign, is_current, lines, object_of, path, probe, read, retire,
                    slots, stamp, status, survey, update, write)
from surveyline.reach import answers


class TestForm(unittest.TestCase):
    def test_each_answer_has_its_count_before_it(self):
        self.assertEqual(answers([0, 3, 2]), [1, 1])
        self.assertEqual(answers([0, 0, 2, 5, 0, 9, 3, 1, 0, 1, 2, 0]),
                         [1, 1, 3, 1, 1, 1, 2, 0, 0, 2, 0, 0, 1, 0])

    def test_a_refusal_is_one_number(self):
        self.assertEqual(answers([5, 0]), [1, -3])
        self.assertEqual(answers([5, 6, 9]), [1, -1, 2, 0, 0])

    def test_collect_tells_both_lists_with_their_lengths(self):
        calls = flat([create(0, 0), create(0, 0), import_foreign(4, 0), clear(0), collect()])
        self.assertEqual(answers(calls), [1, 1, 1, 2, 2, 1, 1, 1, 0, 5, 2, 1, 2, 1, 4])

    def test_whole_numbers_and_no_truth_values(self):
        calls = [create(0, 1), write(0, 0, 0), write(0, 0, 0), read(1, 0, 0), copy(2, 0),
                 export(2), arrive(1, 3), import_foreign(2, 4), import_foreign(2, 4), clear(4),
                 update(), survey(1), is_current(1, 1, 1), is_current(1, 2, 2), lines(),
                 retire(1), affected(), path(0, 1, 1), path(0, 2, 2), stamp(2, 2), object_of(1),
                 slots(), status(), collect(), is_current(1, 2, 2), clear(0), export(0)]
        given = answers(flat(calls))
        self.assertIs(type(given), list)
        self.assertEqual({type(number) for number in given}, {int})

    def test_a_call_may_come_first_whatever_it_is(self):
        firsts = [(copy(0, 5), [0]), (clear(5), [0]), (read(0, 0, 0), [-3]),
                  (write(0, 0, 0), [-3]), (export(0), [-3]), (arrive(1, 0), [-6]),
                  (import_foreign(1, 0), [1, 1]), (retire(1), [-6]), (collect(), [0, 0]),
                  (update(), [1, 0, 0]), (survey(1), [-7]), (is_current(1, 1, 1), [-7]),
                  (lines(), [0]), (affected(), [1, 0, 0]), (path(0, 1, 1), [-6]),
                  (stamp(1, 1), [-6]), (object_of(1), [-6]), (slots(), [0] * 12),
                  (status(), [0] * 6)]
        for call, answer in firsts:
            with self.subTest(call=call):
                self.assertEqual(ask(call), [answer])

    def test_two_hundred_calls(self):
        self.assertEqual(ask(*[import_foreign(20, 5)] * 200),
                         [[1, 1]] + [[0, stamp] for stamp in range(2, 201)])


class TestNothingIsKept(unittest.TestCase):
    CALLS = flat([create(0, 1), create(1, 2), write(0, 0, 1), import_foreign(3, 2),
                  write(1, 1, 2), export(0), update(), arrive(1, 5), retire(1), clear(0),
                  read(9, 9, 9), clear(5), survey(9), update(), collect()] + probe())

    def test_the_list_handed_in_is_the_same_afterwards(self):
        handed = list(self.CALLS)
        answers(handed)
        self.assertEqual(handed, self.CALLS)

    def test_a_second_time_begins_anew(self):
        first = answers(list(self.CALLS))
        self.assertEqual(answers(list(self.CALLS)), first)
        self.assertEqual(answers([5, 0, 6, 1, 0, 7, 3, 0, 9, 0, 0, 0]),
                         [1, -3, 1, -6, 2, 1, 1, 2, 0, 0, 1, 1])

    def test_the_fortieth_object_of_one_time_is_not_counted_the_next(self):
        answers([0, 0, 0] * 40)
        self.assertEqual(answers([0, 0, 0]), [1, 1])

    def test_the_thirtieth_survey_of_one_time_is_not_counted_the_next(self):
        answers([0, 0, 0, 5, 0] + [10] * 30)
        self.assertEqual(answers([10, 11, 1]), [3, 1, 0, 0, 1, 0])
        self.assertEqual(answers([11, 1, 14, 19]), [1, -7, 3, 1, 0, 0, 6] + [0] * 6)

    def test_what_is_given_back_belongs_to_the_asker(self):
        first = answers([0, 0, 0, 9])
        first.append(99)
        self.assertEqual(answers([0, 0, 0, 9]), [1, 1, 2, 0, 0])


class TestExamples(unittest.TestCase):
    def test_the_whole_table(self):
        rows = [
            (create(0, 2), [1]),
            (create(1, 1), [2]),
            (write(0, 0, 1), [1]),
            (import_foreign(7, 2), [1, 1]),
            (write(1, 0, 2), [1]),
            (clear(2), [0]),
            (export(0), [1, 1, 2]),
            (export(1), [1, 2, 3]),
            (update(), [1, 5, 3]),
            (survey(1), [3, 1, 1, 2, 1, 0, 1, 2, 3, 1, 1, 1, 2, 7, 1, 1, 2, 1, 2]),
            (clear(0), [0]),
            (clear(1), [0]),
            (affected(), [1, 0, 0]),
            (update(), [2, 0, 3]),
            (survey(2), [3, 1, 1, 2, 0, 0, 1, 2, 3, 0, 1, 1, 2, 7, 1, 0, 2, 1, 2]),
            (is_current(2, 2, 7), [1]),
            (is_current(1, 2, 7), [0, 1]),
            (path(1, 2, 7), [1, 2, 0, 0]),
            (path(0, 2, 7), [0]),
            (arrive(2, 3), [4]),
            (is_current(2, 2, 7), [0, 2, 1, 2]),
            (is_current(2, 1, 1), [1]),
            (read(4, 3, 0), [2, 7]),
            (create(5, 1), [3]),
            (write(5, 0, 4), [1]),
            (write(3, 0, 2), [1]),
            (affected(), [1, 2, 1, 2, 5]),
            (update(), [3, 5, 3]),
            (lines(), [3, 1, 1, 0, 0, 1, 2, 1, 1, 1, 2, 7, 1, 0]),
            (path(0, 2, 7), [1, 1, 4]),
            (retire(1), [0]),
            (clear(4), [0]),
            (path(0, 2, 7), [1, 2, 5, 0]),
            (clear(5), [0]),
            (collect(), [2, 1, 3, 1, 7]),
            (stamp(2, 7), [-6]),
            (is_current(2, 1, 1), [0, 2, 1, 1]),
            (slots(), [0, 0, 0, 0, 0, 0, 1, 2, 0, 0, 0, 0]),
            (status(), [3, 1, 1, 0, 4, 3]),
        ]
        given = ask(*[call for call, answer in rows])
        for place, (call, answer) in enumerate(rows):
            with self.subTest(row=place + 1, call=call):
                self.assertEqual(given[place], answer)

    def test_the_calls_of_the_interface_worked_out_by_hand(self):
        calls = [0, 0, 2, 0, 1, 1, 4, 0, 0, 1, 5, 0, 10, 2, 0, 2, 1, 14, 10, 11, 2, 9, 19]
        given = [[1], [2], [1], [1, 1, 1], [1, 4, 1], [0], [0], [1, 0, 0], [2, 0, 1],
                 [1, 1, 1, 1, 0, 0], [0, 0], [2, 2, 1, 0, 1, 2]]
        self.assertEqual(answers(calls), flat([[len(answer)] + answer for answer in given]))


if __name__ == "__main__":
    unittest.main()
