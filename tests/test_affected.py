"""affected, and the work of update: which sources are looked at anew."""

import unittest

from helper import (affected, arrive, ask, clear, collect, copy, create, export, import_foreign,
                    last, read, retire, slots, status, survey, update, write)


# Object 1 leads to 2 and that to 3; 1 and 2 are entries. Object 4, in slot 1, leads
# to 3 too, and object 1 is in slot 0. The slots lead to all four.
def site():
    calls = [create(0, 2), create(1, 2), create(2, 2), write(0, 0, 1), write(1, 0, 2), export(0),
             export(1), create(3, 2), write(3, 0, 2), copy(1, 3)]
    return calls + [clear(slot) for slot in (2, 3)]


# The answer to affected after a survey and then these calls.
def after_survey(*calls):
    return last(*site(), update(), *calls, affected())


class TestNoSurvey(unittest.TestCase):
    def test_at_the_beginning(self):
        self.assertEqual(ask(affected(), update()), [[1, 0, 0], [1, 0, 0]])

    def test_all_sources(self):
        given = ask(*site(), affected(), update())
        self.assertEqual(given[-2:], [[1, 2, 1, 2, 9], [1, 9, 2]])

    def test_entries_alone_have_work(self):
        given = ask(create(0, 0), export(0), clear(0), affected(), update())
        self.assertEqual(given[3:], [[1, 1, 1, 1], [1, 1, 1]])

    def test_the_entries_in_increasing_order(self):
        given = ask(create(0, 0), create(1, 0), create(2, 0), export(2), export(0), export(1),
                    affected())
        self.assertEqual(given[-1], [1, 3, 1, 2, 3, 6])

    def test_imports_are_no_sources_and_no_work(self):
        given = ask(import_foreign(1, 0), create(1, 1), write(1, 0, 0), affected(), update())
        self.assertEqual(given[3:], [[1, 0, 1], [1, 1, 1]])

    def test_asking_makes_no_survey(self):
        given = ask(*site(), affected(), affected(), survey(1), status())
        self.assertEqual(given[-4:], [[1, 2, 1, 2, 9], [1, 2, 1, 2, 9], [-7], [4, 4, 2, 0, 2, 0]])


class TestNothingChanged(unittest.TestCase):
    def test_a_survey_right_after_another(self):
        given = ask(*site(), update(), affected(), update(), update(), affected())
        self.assertEqual(given[-5:], [[1, 9, 2], [0, 0, 0], [2, 0, 2], [3, 0, 2], [0, 0, 0]])

    def test_a_slot_that_gets_the_value_that_it_had(self):
        calls = [copy(0, 0), clear(5), copy(5, 4), arrive(1, 0), copy(1, 1), read(4, 0, 1)]
        for call in calls:
            with self.subTest(call=call):
                self.assertEqual(after_survey(call), [0, 0, 0])
        self.assertEqual(after_survey(*calls), [0, 0, 0])

    def test_a_slot_that_gets_the_same_object_from_a_field_or_the_same_foreign_reference(self):
        given = ask(create(0, 1), write(0, 0, 0), import_foreign(3, 5), update(), read(0, 0, 0),
                    import_foreign(3, 5), affected(), update())
        self.assertEqual(given[-2:], [[0, 0, 0], [2, 0, 1]])

    def test_a_field_that_gets_the_value_that_it_had(self):
        self.assertEqual(after_survey(write(0, 1, 5), write(1, 1, 4)), [0, 0, 0])
        given = ask(create(0, 1), create(1, 0), import_foreign(3, 2), write(0, 0, 1), update(),
                    write(0, 0, 1), affected(), write(0, 0, 2), update(), write(0, 0, 2), affected())
        self.assertEqual(given[5:], [[0], [0, 0, 0], [1], [2, 2, 1], [0], [0, 0, 0]])

    def test_uses_of_what_is_an_entry_already(self):
        self.assertEqual(after_survey(export(0), arrive(1, 0), export(0)), [0, 0, 0])

    def test_collect(self):
        self.assertEqual(after_survey(collect(), collect()), [0, 0, 0])

    def test_refused_calls(self):
        calls = [read(0, 5, 0), write(5, 0, 0), write(0, 2, 1), export(5), arrive(3, 0), retire(3),
                 copy(0, 6), clear(-1), import_foreign(21, 0), create(0, 5)]
        self.assertEqual(after_survey(*calls), [0, 0, 0])


class TestSlots(unittest.TestCase):
    def test_each_call_that_puts_another_value_into_a_slot(self):
        for call, answer in ((create(5, 0), [1, 0, 5]), (copy(5, 0), [1, 0, 4]),
                             (clear(1), [1, 0, 3]), (read(5, 0, 0), [1, 0, 4]),
                             (arrive(2, 5), [1, 0, 4]), (import_foreign(9, 5), [1, 0, 4])):
            with self.subTest(call=call):
                self.assertEqual(after_survey(call), answer)

    def test_every_slot(self):
        for slot in range(6):
            with self.subTest(slot=slot):
                given = ask(update(), create(slot, 0), affected(), update(), clear(slot),
                            affected())
                self.assertEqual(given[2:], [[1, 0, 1], [2, 1, 0], [0], [1, 0, 0]])

    def test_another_value_and_then_the_old_value_again(self):
        self.assertEqual(after_survey(copy(5, 0), clear(5)), [1, 0, 4])
        self.assertEqual(after_survey(clear(0), arrive(1, 0)), [1, 0, 4])
        given = ask(*site(), update(), copy(5, 0), clear(5), update(), update())
        self.assertEqual(given[-2:], [[2, 4, 2], [3, 0, 2]])

    def test_an_object_and_a_foreign_reference_with_one_number_are_other_values(self):
        given = ask(create(0, 0), update(), import_foreign(1, 0), affected())
        self.assertEqual(given[-1], [1, 0, 0])

    def test_slots_that_lead_to_nothing_are_affected_without_work(self):
        given = ask(*site(), update(), clear(0), clear(1), affected(), update(), affected())
        self.assertEqual(given[-3:], [[1, 0, 0], [2, 0, 2], [0, 0, 0]])

    def test_a_slot_is_no_matter_of_the_entries(self):
        given = ask(*site(), clear(0), clear(1), update(), arrive(1, 5), create(4, 0), affected(),
                    update())
        self.assertEqual(given[-2:], [[1, 0, 4], [2, 4, 2]])


class TestFields(unittest.TestCase):
    def test_the_slots_alone_lead_to_the_object(self):
        self.assertEqual(after_survey(write(1, 1, 1)), [1, 0, 4])

    def test_the_first_entry_leads_to_the_object(self):
        self.assertEqual(after_survey(write(0, 1, 0)), [1, 1, 1, 7])

    def test_the_slots_and_both_entries_lead_to_the_object(self):
        # Object 3 comes into a slot by way of object 4, and is itself no entry.
        self.assertEqual(after_survey(read(5, 1, 0), write(5, 0, 5)), [1, 2, 1, 2, 9])

    def test_another_value_and_then_the_old_value_again(self):
        self.assertEqual(after_survey(write(0, 1, 0), write(0, 1, 5)), [1, 1, 1, 7])
        given = ask(*site(), update(), write(0, 1, 1), write(0, 1, 5), update(), update())
        self.assertEqual(given[-2:], [[2, 7, 2], [3, 0, 2]])

    def test_the_entries_that_led_to_the_object_without_a_slot(self):
        given = ask(*site(), clear(0), clear(1), update(), arrive(2, 3), update(), write(3, 1, 3),
                    affected())
        self.assertEqual(given[-4:], [[3], [2, 2, 2], [1], [1, 2, 1, 2, 7]])

    def test_an_object_to_which_the_source_leads_no_more(self):
        # Object 2 is cut from object 1, and changed then.
        calls = [read(5, 0, 0), write(0, 0, 4), write(5, 1, 1)]
        self.assertEqual(after_survey(*calls), [1, 2, 1, 2, 8])
        given = ask(*site(), update(), *calls, update(), update())
        self.assertEqual(given[-2:], [[2, 8, 2], [3, 0, 2]])

    def test_an_object_that_is_changed_and_cut_then(self):
        calls = [read(5, 0, 0), write(5, 1, 1), write(0, 0, 4), clear(5)]
        self.assertEqual(after_survey(*calls), [1, 2, 1, 2, 7])

    def test_an_entry_that_was_cut_keeps_the_others_as_they_were(self):
        # The slots and 1 led to object 2; entry 2 itself didn't lead to object 1.
        self.assertEqual(after_survey(write(0, 0, 5)), [1, 1, 1, 4])

    def test_an_object_to_which_the_entry_leads_now_and_led_not_then(self):
        # Object 4 is hung on entry 2, before or after it is changed.
        self.assertEqual(after_survey(write(1, 1, 1)), [1, 0, 4])
        self.assertEqual(after_survey(read(5, 0, 0), write(5, 1, 1), write(1, 1, 0)),
                         [1, 2, 1, 2, 12])
        self.assertEqual(after_survey(write(1, 1, 1), read(5, 0, 0), write(5, 1, 1)),
                         [1, 2, 1, 2, 11])

    def test_a_new_object_is_no_matter_of_an_entry_that_never_led_to_it(self):
        self.assertEqual(after_survey(create(5, 4), write(5, 3, 5), write(5, 0, 0)), [1, 0, 5])

    def test_what_was_changed_before_the_survey_is_past(self):
        given = ask(*site(), update(), write(0, 1, 0), update(), write(1, 1, 1), affected())
        self.assertEqual(given[-1], [1, 0, 4])

    def test_the_last_survey_counts_and_not_the_ones_before(self):
        # Entry 1 led to object 2 at the first survey, and at the second no more.
        given = ask(*site(), update(), read(5, 0, 0), write(0, 0, 4), update(), write(5, 1, 5),
                    affected())
        self.assertEqual(given[-1], [1, 1, 2, 6])

    def test_another_foreign_reference(self):
        given = ask(create(0, 1), export(0), import_foreign(1, 1), import_foreign(2, 2), update(),
                    write(0, 0, 1), update(), write(0, 0, 2), affected(), update())
        self.assertEqual(given[-4:], [[2, 2, 3], [1], [1, 1, 1, 2], [3, 2, 3]])


class TestEntries(unittest.TestCase):
    def test_a_new_one(self):
        given = ask(*site(), update(), export(1), affected(), update(), affected())
        self.assertEqual(given[-3:], [[0, 1, 4, 2], [2, 2, 3], [0, 0, 0]])

    def test_a_new_one_that_is_retired_again(self):
        self.assertEqual(after_survey(export(1), retire(4)), [0, 0, 0])
        self.assertEqual(after_survey(export(1), retire(4), export(1)), [0, 1, 4, 2])

    def test_one_that_was_retired_and_exported_again(self):
        given = ask(*site(), update(), retire(1), export(0), affected(), update(), update())
        self.assertEqual(given[-3:], [[0, 1, 1, 3], [2, 3, 2], [3, 0, 2]])

    def test_one_that_was_retired_and_exported_again_twice(self):
        self.assertEqual(after_survey(retire(1), export(0), retire(1), export(0), export(0)),
                         [0, 1, 1, 3])

    def test_one_that_was_retired_before_the_last_survey_and_is_exported_behind_it(self):
        given = ask(*site(), update(), retire(1), update(), export(0), affected())
        self.assertEqual(given[-3:], [[2, 0, 1], [1, 1, 3], [0, 1, 1, 3]])

    def test_the_others_stay_when_one_is_retired(self):
        self.assertEqual(after_survey(retire(1)), [0, 0, 0])
        self.assertEqual(after_survey(retire(2)), [0, 0, 0])
        given = ask(*site(), update(), retire(2), update(), survey(2), survey(1))
        self.assertEqual(given[-3:], [[2, 0, 1], [1, 1, 1, 1, 1, 0],
                                      [2, 1, 1, 1, 1, 0, 1, 2, 2, 1, 1, 1]])

    def test_one_that_was_retired_is_not_told_though_its_field_was_changed(self):
        self.assertEqual(after_survey(write(0, 1, 0), retire(1)), [1, 0, 4])

    def test_the_others_stay_when_one_is_new(self):
        self.assertEqual(after_survey(read(5, 0, 0), clear(5), export(1)), [1, 1, 4, 6])

    def test_a_new_import_is_no_source(self):
        self.assertEqual(after_survey(import_foreign(4, 5)), [1, 0, 4])
        given = ask(*site(), update(), import_foreign(4, 5), update(), retire(1), affected())
        self.assertEqual(given[-3:], [[2, 4, 3], [0], [0, 0, 0]])


class TestCollectBetween(unittest.TestCase):
    # The answers of affected and update are the same with collect ahead of them.
    def check(self, removed, *calls):
        kept = ask(*site(), update(), *calls, affected(), update())
        given = ask(*site(), update(), *calls, collect(), affected(), update())
        self.assertEqual(given[-3], removed)
        self.assertEqual(given[-2:], kept[-2:])
        return given[-2]

    def test_an_object_that_was_changed_is_removed(self):
        answer = self.check([1, 4, 0], write(1, 1, 0), clear(1))
        self.assertEqual(answer, [1, 0, 3])

    def test_an_object_that_was_changed_and_cut_is_removed(self):
        answer = self.check([1, 3, 0], read(5, 1, 0), write(5, 1, 5), write(1, 0, 4), read(5, 0, 0),
                            write(5, 0, 4))
        self.assertEqual(answer, [1, 2, 1, 2, 6])

    def test_an_entry_is_retired_and_removed(self):
        answer = self.check([3, 1, 2, 3, 0], clear(0), write(1, 0, 0), retire(1), retire(2))
        self.assertEqual(answer, [1, 0, 1])

    def test_an_import_is_removed(self):
        given = ask(create(0, 1), export(0), import_foreign(6, 1), write(0, 0, 1), clear(1), update(),
                    write(0, 0, 1), collect(), affected(), update(), affected())
        self.assertEqual(given[-5:], [[1], [0, 1, 6], [1, 1, 1, 2], [2, 2, 1], [0, 0, 0]])

    def test_nothing_was_changed(self):
        given = ask(*site(), import_foreign(6, 5), clear(5), update(), collect(), affected(),
                    update())
        self.assertEqual(given[-4:], [[1, 9, 3], [0, 1, 6], [0, 0, 0], [2, 0, 2]])


class TestMost(unittest.TestCase):
    def test_a_chain_of_entries(self):
        calls = [create(0, 1), export(0), copy(1, 0)]
        for number in range(2, 41):
            calls += [create(2, 1), export(2), write(1, 0, 2), copy(1, 2)]
        given = ask(*calls, affected(), update(), write(1, 0, 0), affected(), slots())
        everything = list(range(1, 41))
        self.assertEqual(given[-5], [1, 40] + everything + [40 + sum(everything)])
        self.assertEqual(given[-4], [1, 40 + sum(everything), 40])
        self.assertEqual(given[-2], [1, 40] + everything + [41 * 40])
        self.assertEqual(given[-1], [1, 1, 1, 40, 1, 40] + [0] * 6)


if __name__ == "__main__":
    unittest.main()
