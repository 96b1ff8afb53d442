"""stamp, object_of, slots and status."""

import unittest

from helper import (arrive, ask, clear, collect, copy, create, export, import_foreign, last,
                    object_of, path, read, retire, slots, stamp, status, survey, update, write)

LEAST = -10 ** 18
MOST = 10 ** 18


class TestStamp(unittest.TestCase):
    def test_the_number_of_the_last_use(self):
        given = ask(create(0, 0), import_foreign(3, 1), export(0), stamp(1, 1), stamp(2, 3),
                    arrive(1, 2), stamp(1, 1), export(1), stamp(2, 3), import_foreign(3, 1),
                    stamp(2, 3), export(0), stamp(1, 1))
        self.assertEqual([given[3], given[4], given[6], given[8], given[10], given[12]],
                         [[2], [1], [3], [4], [5], [6]])

    def test_an_entry_and_an_import_with_one_number(self):
        given = ask(create(0, 0), import_foreign(1, 1), stamp(1, 1), stamp(2, 1), export(0),
                    stamp(1, 1), stamp(2, 1))
        self.assertEqual([given[2], given[3], given[5], given[6]], [[-6], [1], [2], [1]])

    def test_what_was_retired_and_what_was_removed(self):
        given = ask(create(0, 0), export(0), import_foreign(3, 1), clear(1), stamp(2, 3), collect(),
                    stamp(2, 3), stamp(1, 1), retire(1), stamp(1, 1), import_foreign(3, 1), export(0),
                    stamp(2, 3), stamp(1, 1))
        self.assertEqual([given[4], given[6], given[7], given[9], given[12], given[13]],
                         [[2], [-6], [1], [-6], [3], [4]])

    def test_an_object_that_is_no_entry(self):
        self.assertEqual(last(create(0, 0), stamp(1, 1)), [-6])

    def test_the_numbers_that_nothing_has(self):
        for number in (0, -1, -2, 2, 4, 21, 41, LEAST, MOST):
            for kind in (1, 2):
                with self.subTest(kind=kind, number=number):
                    given = ask(create(0, 0), export(0), import_foreign(1, 1), stamp(kind, number))
                    self.assertEqual(given[-1], [-6])

    def test_the_kind(self):
        for kind in (0, 3, -1, LEAST, MOST):
            with self.subTest(kind=kind):
                self.assertEqual(last(create(0, 0), export(0), stamp(kind, 1)), [-1])
                self.assertEqual(ask(stamp(kind, 99)), [[-1]])


class TestObject(unittest.TestCase):
    def test_every_number_of_fields(self):
        for count in range(5):
            with self.subTest(count=count):
                self.assertEqual(last(create(5, count), object_of(1)), [count] + [0, 0] * count)

    def test_the_values(self):
        given = ask(create(0, 4), create(5, 1), import_foreign(20, 2), write(0, 0, 2), write(0, 2, 5),
                    write(0, 3, 0), write(5, 0, 2), object_of(1), object_of(2), write(0, 2, 4),
                    object_of(1))
        self.assertEqual([given[7], given[8], given[10]],
                         [[4, 2, 20, 0, 0, 1, 2, 1, 1], [1, 2, 20], [4, 2, 20, 0, 0, 0, 0, 1, 1]])

    def test_one_to_which_no_source_leads(self):
        given = ask(create(0, 1), write(0, 0, 0), clear(0), object_of(1), collect(), object_of(1))
        self.assertEqual(given[-3:], [[1, 1, 1], [1, 1, 0], [-6]])

    def test_one_that_was_retired(self):
        given = ask(create(0, 1), export(0), retire(1), object_of(1))
        self.assertEqual(given[-1], [1, 0, 0])

    def test_the_numbers_that_no_object_has(self):
        for number in (0, -1, -2, 3, 4, 41, LEAST, MOST):
            with self.subTest(number=number):
                given = ask(create(0, 0), create(1, 0), import_foreign(3, 2), object_of(number))
                self.assertEqual(given[-1], [-6])

    def test_the_fortieth(self):
        given = ask(*[create(0, 2)] * 41, object_of(40), object_of(41), object_of(39), collect(),
                    object_of(40), object_of(39))
        self.assertEqual(given[41:44] + given[45:], [[2, 0, 0, 0, 0], [-6], [2, 0, 0, 0, 0],
                                                     [2, 0, 0, 0, 0], [-6]])


class TestSlots(unittest.TestCase):
    def test_at_the_beginning(self):
        self.assertEqual(ask(slots()), [[0] * 12])

    def test_the_value_of_each(self):
        given = ask(create(0, 1), import_foreign(20, 5), slots(), copy(3, 5), write(0, 0, 3),
                    read(2, 0, 0), import_foreign(1, 1), clear(0), create(4, 0), slots())
        self.assertEqual([given[2], given[9]], [[1, 1, 0, 0, 0, 0, 0, 0, 0, 0, 2, 20],
                                                [0, 0, 2, 1, 2, 20, 2, 20, 1, 2, 2, 20]])

    def test_an_entry_that_comes_in(self):
        given = ask(create(0, 0), export(0), clear(0), arrive(1, 5), slots())
        self.assertEqual(given[-1], [0] * 10 + [1, 1])

    def test_collect_and_update_leave_them(self):
        given = ask(create(0, 0), import_foreign(2, 4), collect(), update(), slots())
        self.assertEqual(given[-1], [1, 1] + [0] * 6 + [2, 2, 0, 0])


class TestStatus(unittest.TestCase):
    def test_at_the_beginning(self):
        self.assertEqual(ask(status()), [[0] * 6])

    def test_each_number_by_itself(self):
        given = ask(create(0, 0), status(), create(1, 0), status(), export(0), status(), export(0),
                    status(), import_foreign(7, 2), status(), arrive(1, 3), status(), update(),
                    status())
        self.assertEqual(given[1::2], [[1, 1, 0, 0, 0, 0], [2, 2, 0, 0, 0, 0], [2, 2, 1, 0, 1, 0],
                                       [2, 2, 1, 0, 2, 0], [2, 2, 1, 1, 3, 0], [2, 2, 1, 1, 4, 0],
                                       [2, 2, 1, 1, 4, 1]])

    def test_what_goes(self):
        given = ask(create(0, 0), create(1, 0), export(0), import_foreign(7, 2), update(), clear(0),
                    clear(2), status(), retire(1), status(), collect(), status())
        self.assertEqual([given[7], given[9], given[11]],
                         [[2, 2, 1, 1, 2, 1], [2, 2, 0, 1, 2, 1], [2, 1, 0, 0, 2, 1]])

    def test_refused_calls_do_not_count(self):
        given = ask(create(6, 0), import_foreign(0, 0), export(0), arrive(1, 0), retire(1),
                    survey(0), path(1, 1, 1), status())
        self.assertEqual(given[-1], [0] * 6)

    def test_the_most(self):
        given = ask(*[create(0, 0)] * 41, *[update()] * 31,
                    *[import_foreign(number, 1) for number in range(1, 21)], status())
        self.assertEqual(given[-1], [40, 40, 0, 20, 20, 30])


if __name__ == "__main__":
    unittest.main()
