"""export, arrive, import_foreign and retire."""

import unittest

from helper import (arrive, ask, clear, collect, copy, create, export, import_foreign, last, read,
                    retire, write)


class TestExport(unittest.TestCase):
    def test_an_object_becomes_an_entry(self):
        given = ask(create(0, 0), create(5, 0), arrive(2, 1), export(5), arrive(2, 1), arrive(1, 1))
        self.assertEqual(given[2:], [[-6], [1, 2, 1], [2], [-6]])

    def test_an_entry_gets_a_new_stamp(self):
        given = ask(create(0, 0), export(0), export(0), copy(5, 0), export(5))
        self.assertEqual([given[1], given[2], given[4]], [[1, 1, 1], [1, 1, 2], [1, 1, 3]])

    def test_it_is_one_entry_however_often_it_is_exported(self):
        given = ask(create(0, 0), export(0), export(0), retire(1), retire(1), arrive(1, 0))
        self.assertEqual(given[3:], [[0], [-6], [-6]])

    def test_a_foreign_reference(self):
        given = ask(import_foreign(1, 0), import_foreign(20, 5), export(0), export(5), export(5))
        self.assertEqual(given[2:], [[2, 1, 3], [2, 20, 4], [2, 20, 5]])

    def test_a_foreign_reference_does_not_become_an_entry(self):
        given = ask(create(0, 0), import_foreign(1, 1), export(1), arrive(1, 2), retire(1))
        self.assertEqual(given[3:], [[-6], [-6]])

    def test_nothing(self):
        given = ask(create(0, 0), clear(0), export(0), export(5), export(3))
        self.assertEqual(given[2:], [[-3], [-3], [-3]])

    def test_the_slot_keeps_its_value(self):
        given = ask(create(4, 1), export(4), write(4, 0, 4), read(0, 4, 0))
        self.assertEqual(given[2:], [[1], [1, 1]])


class TestArrive(unittest.TestCase):
    def test_the_entry_is_put_into_the_slot(self):
        given = ask(create(3, 0), export(3), clear(3), arrive(1, 0), arrive(1, 5), export(0),
                    export(5), export(3))
        self.assertEqual(given[3:], [[2], [3], [1, 1, 4], [1, 1, 5], [-3]])

    def test_it_replaces_what_the_slot_held(self):
        given = ask(create(0, 0), export(0), create(1, 0), arrive(1, 1), collect(), export(1))
        self.assertEqual(given[3:], [[2], [1, 2, 0], [1, 1, 3]])

    def test_the_object_is_the_one_that_was_exported(self):
        given = ask(create(0, 1), import_foreign(6, 1), write(0, 0, 1), export(0), clear(0),
                    arrive(1, 5), read(2, 5, 0))
        self.assertEqual(given[6], [2, 6])

    def test_the_objects_that_are_no_entries(self):
        for number in (2, 0, -1, 3, 41, -10 ** 18, 10 ** 18):
            with self.subTest(number=number):
                given = ask(create(0, 0), create(1, 0), export(0), arrive(number, 0), export(0))
                self.assertEqual(given[3:], [[-6], [1, 1, 2]])

    def test_an_import_of_this_number_is_no_entry(self):
        self.assertEqual(last(import_foreign(2, 0), arrive(2, 0)), [-6])

    def test_an_object_that_was_retired(self):
        given = ask(create(0, 0), export(0), retire(1), arrive(1, 0), export(0), arrive(1, 0))
        self.assertEqual(given[3:], [[-6], [1, 1, 2], [3]])


class TestImport(unittest.TestCase):
    def test_a_new_one_and_one_that_is_an_import_already(self):
        given = ask(import_foreign(7, 0), import_foreign(7, 1), import_foreign(8, 0),
                    import_foreign(7, 0))
        self.assertEqual(given, [[1, 1], [0, 2], [1, 3], [0, 4]])

    def test_the_first_and_the_last_foreign_reference_and_slot(self):
        given = ask(import_foreign(1, 5), import_foreign(20, 0), export(5), export(0))
        self.assertEqual(given, [[1, 1], [1, 2], [2, 1, 3], [2, 20, 4]])

    def test_it_replaces_what_the_slot_held(self):
        given = ask(create(0, 0), import_foreign(3, 0), export(0), collect())
        self.assertEqual(given[1:], [[1, 1], [2, 3, 2], [1, 1, 0]])

    def test_it_is_an_import_until_it_is_removed(self):
        given = ask(import_foreign(7, 0), clear(0), import_foreign(7, 0), clear(0), collect(),
                    import_foreign(7, 0), import_foreign(7, 0))
        self.assertEqual(given[2:], [[0, 2], [0], [0, 1, 7], [1, 3], [0, 4]])

    def test_an_entry_of_this_number_is_no_import(self):
        given = ask(create(0, 0), export(0), import_foreign(1, 1), arrive(1, 2), export(1))
        self.assertEqual(given[2:], [[1, 2], [3], [2, 1, 4]])

    def test_all_of_them(self):
        given = ask(*[import_foreign(number, 0) for number in range(1, 21)], collect())
        self.assertEqual(given[:20], [[1, number] for number in range(1, 21)])
        self.assertEqual(given[20], [0, 19] + list(range(1, 20)))


class TestRetire(unittest.TestCase):
    def test_an_entry_once(self):
        given = ask(create(0, 0), export(0), retire(1), retire(1))
        self.assertEqual(given[2:], [[0], [-6]])

    def test_it_is_no_use(self):
        given = ask(create(0, 0), export(0), retire(1), export(0))
        self.assertEqual(given[2:], [[0], [1, 1, 2]])

    def test_the_slots_keep_the_object(self):
        given = ask(create(0, 1), export(0), retire(1), collect(), read(1, 0, 0), clear(0),
                    collect())
        self.assertEqual(given[2:], [[0], [0, 0], [0, 0], [0], [1, 1, 0]])

    def test_the_others_stay_entries(self):
        given = ask(create(0, 0), create(1, 0), export(0), export(1), retire(1), arrive(2, 0))
        self.assertEqual(given[4:], [[0], [3]])

    def test_the_objects_that_are_no_entries(self):
        for number in (2, 0, -1, 3, 41, -10 ** 18, 10 ** 18):
            with self.subTest(number=number):
                given = ask(create(0, 0), create(1, 0), export(0), retire(number), arrive(1, 5))
                self.assertEqual(given[3:], [[-6], [2]])

    def test_an_import_of_this_number_is_no_entry(self):
        given = ask(import_foreign(2, 0), retire(2), import_foreign(2, 0))
        self.assertEqual(given[1:], [[-6], [0, 2]])

    def test_an_object_that_was_removed(self):
        given = ask(create(0, 0), export(0), clear(0), retire(1), collect(), retire(1),
                    arrive(1, 0))
        self.assertEqual(given[3:], [[0], [1, 1, 0], [-6], [-6]])


class TestStamps(unittest.TestCase):
    def test_the_uses_of_all_names_are_counted_together(self):
        given = ask(create(0, 0), import_foreign(5, 1), export(0), arrive(1, 2), export(1),
                    import_foreign(5, 3), export(2))
        self.assertEqual(given[1:], [[1, 1], [1, 1, 2], [3], [2, 5, 4], [0, 5], [1, 1, 6]])

    def test_the_other_calls_are_no_uses(self):
        given = ask(create(0, 1), export(0), copy(1, 0), write(0, 0, 1), read(2, 0, 0), clear(2),
                    create(3, 0), retire(1), collect(), export(0))
        self.assertEqual(given[-1], [1, 1, 2])

    def test_a_refused_call_is_no_use(self):
        given = ask(export(0), export(6), arrive(1, 0), arrive(1, 6), import_foreign(0, 0),
                    import_foreign(21, 0), import_foreign(1, 6), import_foreign(1, 0))
        self.assertEqual(given[-1], [1, 1])

    def test_a_name_that_is_removed_and_becomes_a_name_again(self):
        given = ask(create(0, 0), export(0), import_foreign(4, 1), retire(1), clear(1), collect(),
                    import_foreign(4, 1), export(0))
        self.assertEqual(given[5:], [[0, 1, 4], [1, 3], [1, 1, 4]])


if __name__ == "__main__":
    unittest.main()
