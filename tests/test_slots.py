"""create, copy, clear, read and write."""

import unittest

from helper import (ask, clear, collect, copy, create, export, import_foreign, last, read, retire,
                    write)


class TestCreate(unittest.TestCase):
    def test_objects_are_numbered_in_their_order(self):
        self.assertEqual(ask(create(0, 2), create(5, 0), create(0, 4)), [[1], [2], [3]])

    def test_the_object_is_in_the_slot_and_in_no_other(self):
        given = ask(create(5, 1), create(0, 0), *[export(slot) for slot in range(6)])
        self.assertEqual(given[2:], [[1, 2, 1], [-3], [-3], [-3], [-3], [1, 1, 2]])

    def test_the_object_replaces_what_the_slot_held(self):
        self.assertEqual(ask(create(3, 0), create(3, 0), export(3), collect())[2:],
                         [[1, 2, 1], [1, 1, 0]])

    def test_no_field(self):
        given = ask(create(0, 0), read(1, 0, 0), write(0, 0, 0))
        self.assertEqual(given, [[1], [-5], [-5]])

    def test_every_field_contains_nothing(self):
        for count in range(5):
            with self.subTest(count=count):
                given = ask(create(0, count), *[read(1, 0, field) for field in range(4)])
                self.assertEqual(given[1:], [[0, 0]] * count + [[-5]] * (4 - count))

    def test_the_fields_of_two_objects_and_of_one_are_apart(self):
        given = ask(create(0, 2), create(1, 2), write(0, 0, 1), read(2, 0, 1), read(2, 1, 0),
                    read(2, 0, 0))
        self.assertEqual(given[3:], [[0, 0], [0, 0], [1, 2]])

    def test_the_fortieth_object_and_the_one_behind_it(self):
        given = ask(*[create(0, 0)] * 42, export(0))
        self.assertEqual(given, [[number] for number in range(1, 41)] + [[-8], [-8], [1, 40, 1]])

    def test_a_refused_object_leaves_the_slot(self):
        given = ask(*[create(0, 0)] * 40, create(1, 0), export(1), create(0, 0), export(0))
        self.assertEqual(given[40:], [[-8], [-3], [-8], [1, 40, 1]])

    def test_removed_objects_count_and_their_numbers_are_not_used_again(self):
        given = ask(create(0, 0), clear(0), collect(), *[create(0, 0)] * 40)
        self.assertEqual(given[2:], [[1, 1, 0]] + [[number] for number in range(2, 41)] + [[-8]])

    def test_a_refused_object_is_not_counted(self):
        given = ask(create(6, 0), create(0, 5), create(0, 0))
        self.assertEqual(given, [[-1], [-1], [1]])


class TestCopy(unittest.TestCase):
    def test_an_object(self):
        given = ask(create(0, 0), copy(5, 0), export(5), export(0))
        self.assertEqual(given[1:], [[0], [1, 1, 1], [1, 1, 2]])

    def test_a_foreign_reference(self):
        given = ask(import_foreign(9, 5), copy(0, 5), export(0), export(5))
        self.assertEqual(given[1:], [[0], [2, 9, 2], [2, 9, 3]])

    def test_nothing(self):
        given = ask(create(0, 0), copy(0, 1), export(0), collect())
        self.assertEqual(given[1:], [[0], [-3], [1, 1, 0]])

    def test_onto_itself(self):
        self.assertEqual(ask(create(2, 0), copy(2, 2), export(2))[1:], [[0], [1, 1, 1]])

    def test_the_copy_stays_when_the_source_goes(self):
        given = ask(create(0, 1), copy(1, 0), clear(0), export(0), export(1), collect())
        self.assertEqual(given[3:], [[-3], [1, 1, 1], [0, 0]])

    def test_the_copied_value_is_the_same_object(self):
        given = ask(create(0, 1), copy(1, 0), write(1, 0, 1), read(2, 0, 0))
        self.assertEqual(given[2:], [[1], [1, 1]])


class TestClear(unittest.TestCase):
    def test_the_first_and_the_last_slot(self):
        given = ask(create(0, 0), copy(5, 0), copy(3, 0), clear(0), clear(5), export(0), export(5),
                    export(3))
        self.assertEqual(given[3:], [[0], [0], [-3], [-3], [1, 1, 1]])

    def test_an_empty_slot(self):
        self.assertEqual(ask(clear(2), clear(2), export(2)), [[0], [0], [-3]])

    def test_a_cleared_slot_holds_nothing_like_an_untouched_one(self):
        given = ask(create(0, 1), create(1, 0), clear(1), write(0, 0, 1), write(0, 0, 0),
                    write(0, 0, 1), write(0, 0, 5), read(2, 0, 0))
        self.assertEqual(given[3:], [[0], [1], [1], [0], [0, 0]])

    def test_the_object_itself_stays_until_it_is_collected(self):
        given = ask(create(0, 1), create(1, 0), write(0, 0, 1), clear(1), read(1, 0, 0), export(1))
        self.assertEqual(given[4:], [[1, 2], [1, 2, 1]])


class TestRead(unittest.TestCase):
    def test_an_object_a_foreign_reference_and_nothing(self):
        given = ask(create(0, 3), create(1, 0), import_foreign(20, 2), write(0, 0, 1),
                    write(0, 1, 2), read(3, 0, 0), read(4, 0, 1), read(5, 0, 2),
                    export(3), export(4), export(5))
        self.assertEqual(given[5:], [[1, 2], [2, 20], [0, 0], [1, 2, 2], [2, 20, 3], [-3]])

    def test_the_first_and_the_last_field_and_slot(self):
        given = ask(create(5, 4), import_foreign(1, 1), import_foreign(2, 2), write(5, 0, 1),
                    write(5, 3, 2), read(0, 5, 0), export(0), read(0, 5, 3), export(0))
        self.assertEqual(given[5:], [[2, 1], [2, 1, 3], [2, 2], [2, 2, 4]])

    def test_nothing_that_is_read_empties_the_slot(self):
        given = ask(create(0, 1), create(1, 0), read(1, 0, 0), export(1), collect())
        self.assertEqual(given[2:], [[0, 0], [-3], [1, 2, 0]])

    def test_into_the_slot_that_is_read_from(self):
        given = ask(create(0, 1), create(1, 0), write(0, 0, 1), clear(1), read(0, 0, 0), export(0),
                    collect())
        self.assertEqual(given[4:], [[1, 2], [1, 2, 1], [1, 1, 0]])

    def test_no_object_in_the_source(self):
        given = ask(create(0, 1), import_foreign(1, 1), read(0, 2, 0), read(0, 1, 0), read(0, 2, 3),
                    export(0))
        self.assertEqual(given[2:], [[-3], [-3], [-3], [1, 1, 2]])

    def test_no_such_field(self):
        for count in range(4):
            with self.subTest(count=count):
                given = ask(create(0, count), import_foreign(1, 1), read(1, 0, count), read(1, 0, 3),
                            export(1))
                self.assertEqual(given[2:], [[-5], [-5], [2, 1, 2]])

    def test_the_field_keeps_what_is_read(self):
        given = ask(create(0, 1), write(0, 0, 0), read(1, 0, 0), clear(1), read(1, 0, 0))
        self.assertEqual(given[2:], [[1, 1], [0], [1, 1]])

    def test_a_chain_of_all_objects(self):
        calls = [create(0, 1), copy(1, 0)]
        for number in range(2, 41):
            calls.extend([create(2, 1), write(1, 0, 2), copy(1, 2)])
        calls.extend([clear(1), clear(2), collect()] + [read(0, 0, 0)] * 39 + [collect()])
        given = ask(*calls)
        self.assertEqual(given[-41], [0, 0])
        self.assertEqual(given[-40:-1], [[1, number] for number in range(2, 41)])
        self.assertEqual(given[-1], [39] + list(range(1, 40)) + [0])


class TestWrite(unittest.TestCase):
    def test_another_value_and_the_same_again(self):
        given = ask(create(0, 1), create(1, 0), write(0, 0, 1), write(0, 0, 1), write(0, 0, 0),
                    write(0, 0, 1), write(0, 0, 2), write(0, 0, 2))
        self.assertEqual(given[2:], [[1], [0], [1], [1], [1], [0]])

    def test_nothing_over_nothing(self):
        self.assertEqual(last(create(0, 1), write(0, 0, 1)), [0])

    def test_the_same_value_from_another_slot(self):
        self.assertEqual(last(create(0, 1), copy(5, 0), write(0, 0, 0), write(5, 0, 5)), [0])

    def test_the_same_foreign_reference_again(self):
        given = ask(create(0, 1), import_foreign(3, 1), write(0, 0, 1), import_foreign(3, 2),
                    write(0, 0, 2), import_foreign(4, 1), write(0, 0, 1))
        self.assertEqual([given[2], given[4], given[6]], [[1], [0], [1]])

    def test_an_object_and_a_foreign_reference_with_one_number(self):
        given = ask(create(0, 1), import_foreign(1, 1), write(0, 0, 0), write(0, 0, 1),
                    read(2, 0, 0))
        self.assertEqual(given[2:], [[1], [1], [2, 1]])

    def test_the_first_and_the_last_field_and_slot(self):
        given = ask(create(5, 4), create(0, 4), write(5, 0, 0), write(5, 3, 5), write(0, 3, 5),
                    *[read(1, 5, field) for field in range(4)],
                    *[read(1, 0, field) for field in range(4)])
        self.assertEqual(given[2:], [[1], [1], [1], [1, 2], [0, 0], [0, 0], [1, 1],
                                     [0, 0], [0, 0], [0, 0], [1, 1]])

    def test_the_slots_keep_what_they_held(self):
        given = ask(create(0, 1), create(1, 0), write(0, 0, 1), export(0), export(1))
        self.assertEqual(given[3:], [[1, 1, 1], [1, 2, 2]])

    def test_no_object_in_the_target(self):
        given = ask(create(0, 1), import_foreign(1, 1), write(2, 0, 0), write(1, 0, 0),
                    write(2, 3, 0), write(0, 0, 2))
        self.assertEqual(given[2:], [[-3], [-3], [-3], [0]])

    def test_no_such_field(self):
        for count in range(4):
            with self.subTest(count=count):
                self.assertEqual(ask(create(0, count), write(0, count, 0), write(0, 3, 0))[1:],
                                 [[-5], [-5]])

    def test_an_object_that_is_no_entry_any_more(self):
        given = ask(create(0, 1), export(0), retire(1), write(0, 0, 0), clear(0), collect())
        self.assertEqual(given[3:], [[1], [0], [1, 1, 0]])


if __name__ == "__main__":
    unittest.main()
