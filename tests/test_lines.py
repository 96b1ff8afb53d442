"""update, survey and lines: what a survey contains."""

import unittest

from helper import (affected, arrive, ask, clear, collect, copy, create, export, import_foreign,
                    last, lines, read, retire, status, survey, update, write)

LEAST = -10 ** 18
MOST = 10 ** 18


# Objects 1, 2 and 3, each with the next in field 0 and the last with the first; all
# are entries, and none is in a slot.
def cycle():
    return [create(0, 2), create(1, 2), create(2, 2), write(0, 0, 1), write(1, 0, 2),
            write(2, 0, 0), export(0), export(1), export(2), clear(0), clear(1), clear(2)]


class TestUpdate(unittest.TestCase):
    def test_nothing_at_all(self):
        self.assertEqual(ask(update(), survey(1), lines()), [[1, 0, 0], [0], [0]])

    def test_surveys_are_numbered_from_one(self):
        given = ask(create(0, 0), update(), copy(1, 0), update(), export(0), update())
        self.assertEqual([given[1], given[3], given[5]], [[1, 1, 0], [2, 1, 0], [3, 1, 1]])

    def test_the_lines_are_those_of_the_names(self):
        given = ask(create(0, 0), create(1, 0), export(0), import_foreign(1, 2),
                    import_foreign(2, 3), update())
        self.assertEqual(given[-1], [1, 3, 3])

    def test_the_thirtieth_and_the_one_behind_it(self):
        given = ask(create(0, 0), export(0), *[update()] * 32, survey(30), survey(31), status())
        self.assertEqual(given[2], [1, 2, 1])
        self.assertEqual(given[3:32], [[number, 0, 1] for number in range(2, 31)])
        self.assertEqual(given[32:], [[-8], [-8], [1, 1, 1, 1, 1, 0], [-7], [1, 1, 1, 0, 1, 30]])

    def test_a_refused_one_leaves_what_is_affected(self):
        given = ask(create(0, 0), *[update()] * 30, copy(1, 0), export(0), update(), affected(),
                    lines())
        self.assertEqual(given[-3:], [[-8], [1, 1, 1, 2], [1, 1, 1, 1, 0]])

    def test_it_is_no_use(self):
        given = ask(create(0, 0), export(0), update(), survey(1), lines(), export(0))
        self.assertEqual(given[-1], [1, 1, 2])


class TestSurvey(unittest.TestCase):
    def test_the_stamp_goes_ahead_of_rooted(self):
        given = ask(create(0, 0), export(0), import_foreign(9, 1), export(1), clear(1), update(),
                    survey(1), lines())
        self.assertEqual(given[-2:], [[2, 1, 1, 1, 1, 0, 2, 9, 3, 0, 0],
                                      [2, 1, 1, 1, 0, 2, 9, 0, 0]])

    def test_it_stays_as_it_was_whatever_is_done(self):
        later = [arrive(1, 0), export(0), write(0, 0, 5), update(), retire(1), retire(2), retire(3),
                 clear(0), collect(), import_foreign(3, 0), update()]
        given = ask(*cycle(), update(), survey(1), *later, survey(1), survey(2), survey(3))
        first = [3, 1, 1, 1, 0, 2, 2, 3, 1, 2, 2, 0, 2, 1, 3, 1, 3, 3, 0, 2, 1, 2]
        self.assertEqual(given[len(cycle()) + 1], first)
        second = [3, 1, 1, 5, 1, 2, 2, 3, 1, 2, 2, 0, 0, 1, 3, 3, 0, 1, 2]
        self.assertEqual(given[-3:], [first, second, [1, 2, 3, 6, 1, 0]])

    def test_the_numbers_that_no_survey_has(self):
        for index in (0, -1, -2, 3, 4, 30, 31, LEAST, MOST):
            with self.subTest(index=index):
                self.assertEqual(ask(update(), update(), survey(index))[-1], [-7])
                self.assertEqual(ask(survey(index)), [[-7]])

    def test_each_of_several(self):
        given = ask(create(0, 0), update(), export(0), update(), clear(0), update(), survey(1),
                    survey(2), survey(3))
        self.assertEqual(given[-3:], [[0], [1, 1, 1, 1, 1, 0], [1, 1, 1, 1, 0, 0]])


class TestLines(unittest.TestCase):
    def test_no_survey_is_made(self):
        given = ask(create(0, 0), export(0), lines(), lines(), survey(1), affected(), status(),
                    update())
        self.assertEqual(given[2:], [[1, 1, 1, 1, 0], [1, 1, 1, 1, 0], [-7], [1, 1, 1, 2],
                                     [1, 1, 1, 0, 1, 0], [1, 2, 1]])

    def test_what_is_changed_is_told_at_once(self):
        given = ask(create(0, 1), export(0), update(), import_foreign(2, 1), write(0, 0, 1),
                    clear(0), lines(), clear(1), lines(), arrive(1, 4), write(4, 0, 0), lines())
        self.assertEqual([given[6], given[8], given[11]],
                         [[2, 1, 1, 0, 0, 2, 2, 1, 1, 1], [2, 1, 1, 0, 0, 2, 2, 0, 1, 1],
                          [2, 1, 1, 1, 0, 2, 2, 0, 0]])

    def test_an_entry_is_not_among_its_own_sources(self):
        self.assertEqual(last(create(0, 0), export(0), lines()), [1, 1, 1, 1, 0])
        given = ask(create(0, 1), write(0, 0, 0), export(0), clear(0), lines())
        self.assertEqual(given[-1], [1, 1, 1, 0, 0])

    def test_an_entry_on_a_cycle_is_not_among_its_own_sources(self):
        self.assertEqual(last(*cycle(), lines()),
                         [3, 1, 1, 0, 2, 2, 3, 1, 2, 0, 2, 1, 3, 1, 3, 0, 2, 1, 2])

    def test_only_entries_are_sources(self):
        self.assertEqual(last(*cycle(), retire(2), lines()), [2, 1, 1, 0, 1, 3, 1, 3, 0, 1, 1])

    def test_an_import_that_nothing_leads_to(self):
        given = ask(import_foreign(5, 0), clear(0), lines(), update(), survey(1))
        self.assertEqual(given[2:], [[1, 2, 5, 0, 0], [1, 0, 1], [1, 2, 5, 1, 0, 0]])

    def test_an_import_that_only_an_object_without_a_source_leads_to(self):
        given = ask(create(0, 1), import_foreign(5, 1), write(0, 0, 1), clear(0), clear(1), lines())
        self.assertEqual(given[-1], [1, 2, 5, 0, 0])

    def test_the_order_of_names(self):
        given = ask(create(0, 0), create(1, 0), create(2, 0), import_foreign(12, 3),
                    import_foreign(2, 4), import_foreign(1, 5), export(2), export(0), lines(),
                    update(), survey(1))
        self.assertEqual(given[-3:], [[5, 1, 1, 1, 0, 1, 3, 1, 0, 2, 1, 1, 0, 2, 2, 1, 0,
                                       2, 12, 1, 0], [1, 5, 5],
                                      [5, 1, 1, 5, 1, 0, 1, 3, 4, 1, 0, 2, 1, 3, 1, 0, 2, 2, 2, 1, 0,
                                       2, 12, 1, 1, 0]])

    def test_the_sources_in_increasing_order(self):
        # Objects 1, 2 and 3 are exported backwards, and each leads to 4.
        calls = [create(slot, 1) for slot in range(4)]
        calls += [write(slot, 0, 3) for slot in (1, 2, 0)]
        calls += [export(slot) for slot in (3, 2, 1, 0)] + [clear(slot) for slot in range(4)]
        self.assertEqual(last(*calls, lines()), [4, 1, 1, 0, 0, 1, 2, 0, 0, 1, 3, 0, 0,
                                                 1, 4, 0, 3, 1, 2, 3])

    def test_rooted_from_every_slot_and_some_fields_away(self):
        for slot in range(6):
            with self.subTest(slot=slot):
                given = ask(create(slot, 4), export(slot), create(5 - slot, 1),
                            write(5 - slot, 0, slot), clear(slot), lines(), clear(5 - slot), lines())
                self.assertEqual([given[5], given[7]], [[1, 1, 1, 1, 0], [1, 1, 1, 0, 0]])

    def test_what_a_field_leads_to_in_every_place(self):
        for field in range(4):
            with self.subTest(field=field):
                given = ask(create(0, 4), export(0), import_foreign(20, 1), write(0, field, 1),
                            clear(1), clear(0), lines())
                self.assertEqual(given[-1], [2, 1, 1, 0, 0, 2, 20, 0, 1, 1])

    def test_sources_lead_through_entries_and_through_other_objects(self):
        given = ask(*cycle(), retire(2), arrive(1, 0), read(1, 0, 0), read(2, 1, 0),
                    import_foreign(8, 3), write(2, 1, 3), *[clear(slot) for slot in range(4)], lines())
        self.assertEqual(given[-1], [3, 1, 1, 0, 1, 3, 1, 3, 0, 1, 1, 2, 8, 0, 2, 1, 3])

    def test_an_object_and_a_foreign_reference_with_one_number(self):
        given = ask(create(0, 1), export(0), import_foreign(1, 1), clear(0), lines(),
                    arrive(1, 0), write(0, 0, 1), clear(0), clear(1), lines())
        self.assertEqual([given[4], given[9]],
                         [[2, 1, 1, 0, 0, 2, 1, 1, 0], [2, 1, 1, 0, 0, 2, 1, 0, 1, 1]])

    def test_what_collect_removed_has_no_line(self):
        given = ask(import_foreign(5, 0), import_foreign(6, 0), collect(), lines())
        self.assertEqual(given[-1], [1, 2, 6, 1, 0])

    def test_what_was_retired_has_no_line(self):
        given = ask(create(0, 0), export(0), update(), retire(1), lines(), update(), survey(2))
        self.assertEqual(given[-3:], [[0], [2, 0, 0], [0]])


if __name__ == "__main__":
    unittest.main()
