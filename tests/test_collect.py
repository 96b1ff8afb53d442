"""collect: what no source leads to."""

import unittest

from helper import (arrive, ask, clear, collect, copy, create, export, import_foreign, last, read,
                    retire, write)


# Objects 1, 2 and 3, each with the next in field 0 and the last with the first,
# and object 1 alone in slot 0.
def cycle():
    return [create(0, 2), create(1, 2), create(2, 2), write(0, 0, 1), write(1, 0, 2),
            write(2, 0, 0), clear(1), clear(2)]


class TestNothingToRemove(unittest.TestCase):
    def test_at_the_beginning(self):
        self.assertEqual(ask(collect(), collect()), [[0, 0], [0, 0]])

    def test_what_the_slots_hold(self):
        for slot in range(6):
            with self.subTest(slot=slot):
                self.assertEqual(last(create(slot, 0), collect()), [0, 0])
                self.assertEqual(last(import_foreign(1, slot), collect()), [0, 0])

    def test_a_second_time(self):
        given = ask(create(0, 0), import_foreign(1, 0), clear(0), collect(), collect())
        self.assertEqual(given[3:], [[1, 1, 1, 1], [0, 0]])

    def test_what_a_field_of_an_object_in_a_slot_holds(self):
        for field in range(4):
            with self.subTest(field=field):
                given = ask(create(5, 4), create(1, 0), import_foreign(2, 2), write(5, field, 1),
                            clear(1), collect(), write(5, field, 2), clear(2), collect())
                self.assertEqual([given[5], given[8]], [[0, 0], [1, 2, 0]])

    def test_what_is_some_fields_away(self):
        given = ask(*cycle(), import_foreign(9, 1), read(2, 0, 0), read(2, 2, 0), write(2, 1, 1),
                    clear(1), clear(2), collect())
        self.assertEqual(given[-1], [0, 0])

    def test_the_entries_and_what_they_lead_to(self):
        given = ask(*cycle(), import_foreign(9, 1), write(0, 1, 1), clear(1), export(0), clear(0),
                    collect(), arrive(1, 5), read(5, 5, 1))
        self.assertEqual(given[-3:], [[0, 0], [3], [2, 9]])


class TestRemoved(unittest.TestCase):
    def test_objects_and_imports_in_increasing_order(self):
        given = ask(import_foreign(20, 0), import_foreign(3, 0), import_foreign(11, 0), create(0, 0),
                    create(0, 0), create(1, 0), create(0, 0), clear(0), collect())
        self.assertEqual(given[-1], [3, 1, 2, 4, 3, 3, 11, 20])

    def test_objects_alone_and_imports_alone(self):
        self.assertEqual(last(create(0, 0), clear(0), collect()), [1, 1, 0])
        self.assertEqual(last(import_foreign(4, 0), clear(0), collect()), [0, 1, 4])

    def test_a_cycle_that_nothing_leads_to(self):
        self.assertEqual(last(*cycle(), collect(), clear(0), collect()), [3, 1, 2, 3, 0])

    def test_an_object_that_leads_to_itself_alone(self):
        given = ask(create(0, 4), write(0, 3, 0), collect(), clear(0), collect())
        self.assertEqual(given[2:], [[0, 0], [0], [1, 1, 0]])

    def test_a_cycle_with_an_import(self):
        given = ask(*cycle(), import_foreign(9, 1), write(0, 1, 1), clear(1), clear(0), collect())
        self.assertEqual(given[-1], [3, 1, 2, 3, 1, 9])

    def test_a_cycle_with_an_entry_when_it_is_retired(self):
        given = ask(*cycle(), read(1, 0, 0), export(1), clear(1), clear(0), collect(), retire(2),
                    collect())
        self.assertEqual(given[-3:], [[0, 0], [0], [3, 1, 2, 3, 0]])

    def test_what_leads_to_an_entry_is_not_kept_by_it(self):
        given = ask(create(0, 1), create(1, 0), write(0, 0, 1), export(1), clear(0), clear(1),
                    collect())
        self.assertEqual(given[-1], [1, 1, 0])

    def test_a_cycle_cut_by_a_write(self):
        given = ask(*cycle(), write(0, 0, 5), collect())
        self.assertEqual(given[-2:], [[1], [2, 2, 3, 0]])

    def test_what_only_a_removed_object_leads_to(self):
        given = ask(create(0, 1), import_foreign(5, 1), write(0, 0, 1), copy(1, 0), clear(0),
                    collect(), clear(1), collect())
        self.assertEqual([given[5], given[7]], [[0, 0], [1, 1, 1, 5]])

    def test_an_import_is_not_kept_by_its_uses(self):
        given = ask(import_foreign(5, 0), export(0), import_foreign(5, 0), clear(0), collect())
        self.assertEqual(given[-1], [0, 1, 5])

    def test_an_object_and_an_import_of_one_number_are_apart(self):
        given = ask(create(0, 0), import_foreign(1, 1), clear(0), collect(), export(1))
        self.assertEqual(given[3:], [[1, 1, 0], [2, 1, 2]])
        given = ask(create(0, 0), export(0), import_foreign(1, 1), clear(1), collect(), arrive(1, 3))
        self.assertEqual(given[4:], [[0, 1, 1], [3]])


class TestKept(unittest.TestCase):
    def test_the_stamps_go_on(self):
        given = ask(import_foreign(2, 0), create(1, 0), export(1), clear(0), collect(), export(1),
                    import_foreign(2, 0))
        self.assertEqual(given[4:], [[0, 1, 2], [1, 1, 3], [1, 4]])

    def test_the_slots_and_the_fields(self):
        given = ask(create(0, 2), create(5, 0), import_foreign(8, 3), write(0, 1, 3), write(0, 0, 5),
                    create(1, 0), clear(1), collect(), read(1, 0, 0), read(2, 0, 1), export(5),
                    export(3), export(4))
        self.assertEqual(given[7:], [[1, 3, 0], [1, 2], [2, 8], [1, 2, 2], [2, 8, 3], [-3]])

    def test_the_entries(self):
        given = ask(create(0, 0), export(0), clear(0), create(1, 0), clear(1), collect(), retire(2),
                    retire(1), collect())
        self.assertEqual(given[5:], [[1, 2, 0], [-6], [0], [1, 1, 0]])

    def test_an_object_that_was_retired_before_the_next_export(self):
        given = ask(create(0, 0), export(0), retire(1), export(0), clear(0), collect(), retire(1),
                    collect())
        self.assertEqual(given[5:], [[0, 0], [0], [1, 1, 0]])


if __name__ == "__main__":
    unittest.main()
