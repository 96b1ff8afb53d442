"""The one list that is handed in, and the one that is given back."""

import unittest

from helper import (arrive, ask, clear, collect, copy, create, export, flat, import_foreign,
                    probe, read, retire, write)
from surveyline.reach import answers


class TestForm(unittest.TestCase):
    def test_each_answer_has_its_count_before_it(self):
        self.assertEqual(answers([0, 3, 2]), [1, 1])
        self.assertEqual(answers([0, 0, 2, 5, 0, 9, 3, 1, 0, 1, 2, 0]),
                         [1, 1, 3, 1, 1, 1, 2, 0, 0, 2, 0, 0, 1, 0])

    def test_a_refusal_is_one_number(self):
        self.assertEqual(answers([5, 0]), [1, -3])
        self.assertEqual(answers([5, 6, 9]), [1, -1, 2, 0, 0])

    def test_collect_tells_both_lists_with_their_lengths(self):
        calls = flat([create(0, 0), create(0, 0), import_foreign(4, 0), clear(0), collect()])
        self.assertEqual(answers(calls), [1, 1, 1, 2, 2, 1, 1, 1, 0, 5, 2, 1, 2, 1, 4])

    def test_whole_numbers_and_no_truth_values(self):
        calls = [create(0, 1), write(0, 0, 0), write(0, 0, 0), read(1, 0, 0), copy(2, 0),
                 export(2), arrive(1, 3), import_foreign(2, 4), import_foreign(2, 4),
                 retire(1), collect(), clear(0), export(0)]
        given = answers(flat(calls))
        self.assertIs(type(given), list)
        self.assertEqual({type(number) for number in given}, {int})

    def test_a_call_may_come_first_whatever_it_is(self):
        firsts = [(copy(0, 5), [0]), (clear(5), [0]), (read(0, 0, 0), [-3]),
                  (write(0, 0, 0), [-3]), (export(0), [-3]), (arrive(1, 0), [-6]),
                  (import_foreign(1, 0), [1, 1]), (retire(1), [-6]), (collect(), [0, 0])]
        for call, answer in firsts:
            with self.subTest(call=call):
                self.assertEqual(ask(call), [answer])

    def test_two_hundred_calls(self):
        self.assertEqual(ask(*[import_foreign(20, 5)] * 200),
                         [[1, 1]] + [[0, stamp] for stamp in range(2, 201)])


class TestNothingIsKept(unittest.TestCase):
    CALLS = flat([create(0, 1), create(1, 2), write(0, 0, 1), import_foreign(3, 2),
                  write(1, 1, 2), export(0), arrive(1, 5), retire(1), clear(0), read(9, 9, 9),
                  clear(5), collect()] + probe())

    def test_the_list_handed_in_is_the_same_afterwards(self):
        handed = list(self.CALLS)
        answers(handed)
        self.assertEqual(handed, self.CALLS)

    def test_a_second_time_begins_anew(self):
        first = answers(list(self.CALLS))
        self.assertEqual(answers(list(self.CALLS)), first)
        self.assertEqual(answers([5, 0, 6, 1, 0, 7, 3, 0, 9, 0, 0, 0]),
                         [1, -3, 1, -6, 2, 1, 1, 2, 0, 0, 1, 1])

    def test_the_fortieth_object_of_one_time_is_not_counted_the_next(self):
        answers([0, 0, 0] * 40)
        self.assertEqual(answers([0, 0, 0]), [1, 1])

    def test_what_is_given_back_belongs_to_the_asker(self):
        first = answers([0, 0, 0, 9])
        first.append(99)
        self.assertEqual(answers([0, 0, 0, 9]), [1, 1, 2, 0, 0])


class TestExamples(unittest.TestCase):
    def test_the_rows_of_the_table_that_need_these_calls_alone(self):
        rows = [
            (create(0, 2), [1]),
            (create(1, 1), [2]),
            (write(0, 0, 1), [1]),
            (import_foreign(7, 2), [1, 1]),
            (write(1, 0, 2), [1]),
            (clear(2), [0]),
            (export(0), [1, 1, 2]),
            (export(1), [1, 2, 3]),
            (clear(0), [0]),
            (clear(1), [0]),
            (arrive(2, 3), [4]),
            (read(4, 3, 0), [2, 7]),
            (create(5, 1), [3]),
            (write(5, 0, 4), [1]),
            (write(3, 0, 2), [1]),
            (retire(1), [0]),
            (clear(4), [0]),
            (clear(5), [0]),
            (collect(), [2, 1, 3, 1, 7]),
        ]
        self.assertEqual(ask(*[row[0] for row in rows]), [row[1] for row in rows])

    def test_the_calls_of_the_interface_worked_out_by_hand(self):
        given = ask(create(0, 2), create(1, 1), write(0, 0, 1), export(0), clear(0), clear(1),
                    collect())
        self.assertEqual(given, [[1], [2], [1], [1, 1, 1], [0], [0], [0, 0]])


if __name__ == "__main__":
    unittest.main()
