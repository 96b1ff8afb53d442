"""path: the first one from the slots or from an entry."""

import unittest

from helper import (arrive, ask, clear, collect, copy, create, export, import_foreign, last, path,
                    read, retire, status, write)

LEAST = -10 ** 18
MOST = 10 ** 18


# Objects 1 to 6 with four fields, and the foreign references 1 and 2: object n is in
# slot n - 1, if the fields allow it, and the links are (object, field, object).
def linked(*links):
    calls = [create(slot, 4) for slot in range(6)]
    return calls + [write(one - 1, field, other - 1) for one, field, other in links]


def emptied(*but):
    return [clear(slot) for slot in range(6) if slot not in but]


class TestFromTheSlots(unittest.TestCase):
    def test_the_value_of_a_slot(self):
        for slot in range(6):
            with self.subTest(slot=slot):
                given = ask(create(slot, 0), path(0, 1, 1), import_foreign(9, slot), path(0, 2, 9),
                            path(0, 1, 1))
                self.assertEqual(given[1:], [[1, 1, slot], [1, 1], [1, 1, slot], [0]])

    def test_the_first_slot_of_several(self):
        given = ask(create(5, 0), copy(4, 5), copy(2, 5), path(0, 1, 1), clear(2), path(0, 1, 1))
        self.assertEqual([given[3], given[5]], [[1, 1, 2], [1, 1, 4]])

    def test_each_field(self):
        for field in range(4):
            with self.subTest(field=field):
                given = ask(*linked((6, field, 1)), clear(0), path(0, 1, 1))
                self.assertEqual(given[-1], [1, 2, 5, field])

    def test_an_object_that_is_no_entry_and_an_import(self):
        given = ask(*linked((1, 1, 2), (2, 3, 3)), import_foreign(4, 3), write(2, 2, 3),
                    *emptied(0), path(0, 1, 3), path(0, 2, 4), path(0, 1, 2))
        self.assertEqual(given[-3:], [[1, 3, 0, 1, 3], [1, 4, 0, 1, 3, 2], [1, 2, 0, 1]])

    def test_the_shortest_goes_ahead_of_lesser_indices(self):
        given = ask(*linked((1, 0, 2), (2, 0, 3), (6, 3, 3)), *emptied(0, 5), path(0, 1, 3))
        self.assertEqual(given[-1], [1, 2, 5, 3])
        given = ask(*linked((1, 0, 2)), copy(5, 1), *emptied(0, 5), path(0, 1, 2))
        self.assertEqual(given[-1], [1, 1, 5])

    def test_the_first_of_equally_long_ones(self):
        given = ask(*linked((1, 3, 3), (2, 0, 3), (1, 2, 3)), *emptied(0, 1), path(0, 1, 3))
        self.assertEqual(given[-1], [1, 2, 0, 2])

    def test_the_first_index_that_differs_decides(self):
        given = ask(*linked((1, 0, 2), (1, 1, 3), (2, 3, 4), (3, 0, 4)), *emptied(0), path(0, 1, 4))
        self.assertEqual(given[-1], [1, 3, 0, 0, 3])
        given = ask(*linked((1, 0, 3), (1, 1, 2), (2, 3, 4), (3, 0, 4)), *emptied(0), path(0, 1, 4))
        self.assertEqual(given[-1], [1, 3, 0, 0, 0])
        given = ask(*linked((1, 3, 3), (2, 0, 4), (3, 3, 5), (4, 0, 5)), *emptied(0, 1),
                    path(0, 1, 5))
        self.assertEqual(given[-1], [1, 3, 0, 3, 3])

    def test_two_fields_to_the_same_object(self):
        given = ask(*linked((1, 1, 2), (1, 3, 2), (2, 1, 3), (2, 2, 3)), *emptied(0), path(0, 1, 3))
        self.assertEqual(given[-1], [1, 3, 0, 1, 1])

    def test_a_cycle_on_the_way(self):
        links = [(1, 0, 1), (1, 1, 2), (2, 0, 1), (2, 1, 2), (2, 2, 3)]
        self.assertEqual(ask(*linked(*links), *emptied(0), path(0, 1, 3))[-1], [1, 3, 0, 1, 2])

    def test_a_cycle_and_no_path(self):
        links = [(1, 0, 1), (1, 1, 2), (2, 0, 1), (2, 1, 2), (3, 0, 1), (3, 1, 3)]
        self.assertEqual(ask(*linked(*links), *emptied(0), path(0, 1, 3))[-1], [0])

    def test_the_longest(self):
        calls = [create(0, 1), copy(1, 0)]
        for number in range(2, 41):
            calls += [create(2, 1), write(1, 0, 2), copy(1, 2)]
        calls += [import_foreign(20, 2), write(1, 0, 2), clear(1), clear(2)]
        self.assertEqual(ask(*calls, path(0, 2, 20), path(0, 1, 40))[-2:],
                         [[1, 41] + [0] * 41, [1, 40] + [0] * 40])

    def test_no_path_to_what_only_an_entry_leads_to(self):
        given = ask(*linked((1, 0, 2)), export(0), *emptied(), path(0, 1, 1), path(0, 1, 2),
                    path(1, 1, 2))
        self.assertEqual(given[-3:], [[0], [0], [1, 1, 0]])

    def test_no_path_to_what_no_source_leads_to(self):
        given = ask(create(0, 0), clear(0), import_foreign(2, 0), clear(0), path(0, 1, 1),
                    path(0, 2, 2))
        self.assertEqual(given[-2:], [[0], [0]])

    def test_an_object_and_a_foreign_reference_with_one_number(self):
        given = ask(create(4, 0), import_foreign(1, 2), path(0, 1, 1), path(0, 2, 1), clear(4),
                    path(0, 1, 1), clear(2), path(0, 2, 1))
        self.assertEqual([given[2], given[3], given[5], given[7]], [[1, 1, 4], [1, 1, 2], [0], [0]])

    def test_a_foreign_reference_leads_nowhere(self):
        # The slots hold the foreign reference 1 alone, and object 1 leads to object 2.
        given = ask(*linked((1, 0, 2)), export(0), *emptied(), import_foreign(1, 0), path(0, 1, 2),
                    path(0, 1, 1), path(1, 1, 2))
        self.assertEqual(given[-3:], [[0], [0], [1, 1, 0]])


class TestFromAnEntry(unittest.TestCase):
    def test_the_first_index_is_that_of_a_field(self):
        given = ask(*linked((6, 2, 5), (5, 3, 4)), import_foreign(4, 0), write(3, 1, 0), export(5),
                    *emptied(), path(6, 1, 5), path(6, 1, 4), path(6, 2, 4), path(6, 1, 3))
        self.assertEqual(given[-4:], [[1, 1, 2], [1, 2, 2, 3], [1, 3, 2, 3, 1], [0]])

    def test_the_slots_are_no_way_for_it(self):
        given = ask(*linked((1, 2, 3)), export(0), path(1, 1, 2), path(1, 1, 3))
        self.assertEqual(given[-2:], [[0], [1, 1, 2]])

    def test_the_way_leads_through_other_entries(self):
        given = ask(*linked((1, 0, 2), (2, 1, 3)), export(0), export(1), export(2), path(1, 1, 3),
                    path(2, 1, 3), path(3, 1, 1))
        self.assertEqual(given[-3:], [[1, 2, 0, 1], [1, 1, 1], [0]])

    def test_to_itself_without_a_cycle(self):
        given = ask(*linked((1, 0, 2), (2, 0, 3)), export(0), path(1, 1, 1), clear(0),
                    path(1, 1, 1))
        self.assertEqual([given[-3], given[-1]], [[0], [0]])
        self.assertEqual(last(create(0, 0), export(0), path(1, 1, 1)), [0])

    def test_to_itself_on_a_cycle(self):
        given = ask(*linked((1, 3, 1)), export(0), path(1, 1, 1))
        self.assertEqual(given[-1], [1, 1, 3])
        given = ask(*linked((1, 1, 2), (2, 0, 3), (3, 2, 1)), export(0), export(2), path(1, 1, 1),
                    path(3, 1, 3), path(0, 1, 1))
        self.assertEqual(given[-3:], [[1, 3, 1, 0, 2], [1, 3, 2, 1, 0], [1, 1, 0]])

    def test_to_itself_on_the_shortest_of_several_cycles(self):
        given = ask(*linked((1, 0, 2), (2, 0, 3), (3, 0, 1), (1, 3, 4), (4, 3, 1), (1, 2, 5),
                            (5, 3, 1), (5, 1, 1)), export(0), path(1, 1, 1))
        self.assertEqual(given[-1], [1, 2, 2, 1])

    def test_the_shortest_and_the_first(self):
        given = ask(*linked((1, 0, 2), (2, 0, 3), (3, 0, 6), (1, 3, 4), (1, 1, 5), (4, 0, 6),
                            (5, 2, 6)), export(0), path(1, 1, 6))
        self.assertEqual(given[-1], [1, 2, 1, 2])

    def test_a_cycle_with_the_entry_and_no_path(self):
        given = ask(*linked((1, 0, 2), (2, 0, 1)), export(0), path(1, 1, 3))
        self.assertEqual(given[-1], [0])

    def test_one_that_was_exported_again(self):
        given = ask(*linked((1, 0, 2)), export(0), retire(1), path(1, 1, 2), export(0),
                    path(1, 1, 2))
        self.assertEqual([given[-3], given[-1]], [[-6], [1, 1, 0]])


class TestRefused(unittest.TestCase):
    # Entry 1 leads to object 2, and the import 7 is in slot 0.
    SITE = [create(0, 1), create(1, 0), write(0, 0, 1), export(0), create(3, 0), export(3),
            retire(3), import_foreign(7, 0), import_foreign(8, 5), clear(1), clear(3), clear(5),
            collect()]

    def test_the_sources_that_are_none(self):
        for source in (2, 3, 7, 4, 41, -1, LEAST, MOST):
            with self.subTest(source=source):
                self.assertEqual(last(*self.SITE, path(source, 1, 2)), [-6])
                self.assertEqual(last(*self.SITE, path(source, 2, 7)), [-6])

    def test_the_slots_and_the_entry(self):
        given = ask(*self.SITE, path(0, 1, 2), path(1, 1, 2), path(0, 2, 7), path(1, 2, 7))
        self.assertEqual(given[-4:], [[0], [1, 1, 0], [1, 1, 0], [0]])

    def test_the_objects_and_imports_that_are_not_there(self):
        for kind, number in ((1, 3), (1, 0), (1, 4), (1, 7), (1, -1), (1, LEAST), (1, MOST), (2, 8),
                             (2, 1), (2, 0), (2, -7), (2, 21), (2, LEAST), (2, MOST)):
            with self.subTest(kind=kind, number=number):
                self.assertEqual(last(*self.SITE, path(0, kind, number)), [-6])
                self.assertEqual(last(*self.SITE, path(1, kind, number)), [-6])

    def test_the_kind_goes_first(self):
        for kind in (0, 3, -1, LEAST, MOST):
            with self.subTest(kind=kind):
                self.assertEqual(last(*self.SITE, path(0, kind, 7)), [-1])
                self.assertEqual(last(*self.SITE, path(5, kind, 99)), [-1])

    def test_both_are_not_there(self):
        self.assertEqual(last(*self.SITE, path(5, 1, 99)), [-6])

    def test_asking_changes_nothing(self):
        given = ask(*self.SITE, status(), path(0, 2, 7), path(1, 1, 2), path(9, 9, 9), status(),
                    arrive(1, 4), read(5, 4, 0))
        self.assertEqual([given[-7], given[-3]], [[3, 2, 1, 1, 4, 0]] * 2)
        self.assertEqual(given[-1], [1, 2])


if __name__ == "__main__":
    unittest.main()
