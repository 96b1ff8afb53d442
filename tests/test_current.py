"""is_current: which lines of a survey can still be relied on."""

import unittest

from helper import (arrive, ask, clear, collect, copy, create, export, import_foreign, is_current,
                    last, read, retire, status, survey, update, write)

LEAST = -10 ** 18
MOST = 10 ** 18


# Entries 1 and 3 lead to object 2, which is no entry, and this leads to entry 4 and to
# the import 7. The slots are empty. A survey has been made, so there are five uses.
def site():
    calls = [create(0, 2), create(1, 2), create(2, 2), create(3, 2), import_foreign(7, 4)]
    calls += [write(0, 0, 1), write(2, 0, 1), write(1, 0, 3), write(1, 1, 4)]
    calls += [export(0), export(2), export(3), export(4)]
    return calls + [clear(slot) for slot in range(5)] + [update()]


IMPORT = is_current(1, 2, 7)
ENTRY = is_current(1, 1, 4)


def after(*calls):
    return ask(*site(), *calls)[-1]


class TestRooted(unittest.TestCase):
    def test_an_entry_and_an_import_in_a_slot(self):
        given = ask(create(0, 0), export(0), import_foreign(5, 5), update(), is_current(1, 1, 1),
                    is_current(1, 2, 5))
        self.assertEqual(given[-2:], [[0, 1], [0, 1]])

    def test_it_counts_what_was_when_the_survey_was_made(self):
        given = ask(create(0, 0), export(0), update(), clear(0), is_current(1, 1, 1), update(),
                    is_current(2, 1, 1), is_current(1, 1, 1))
        self.assertEqual([given[4], given[6], given[7]], [[0, 1], [1], [0, 1]])

    def test_it_goes_ahead_of_uses_and_of_names_that_are_none_any_more(self):
        given = ask(create(0, 1), import_foreign(5, 1), write(0, 0, 1), export(0), update(),
                    export(0), export(1), is_current(1, 1, 1), is_current(1, 2, 5), retire(1),
                    clear(0), clear(1), collect(), is_current(1, 1, 1), is_current(1, 2, 5))
        self.assertEqual([given[7], given[8], given[13], given[14]], [[0, 1]] * 4)


class TestCurrent(unittest.TestCase):
    def test_a_line_without_and_with_sources(self):
        given = ask(*site(), survey(1), is_current(1, 1, 1), is_current(1, 1, 3), ENTRY, IMPORT)
        self.assertEqual(given[-5], [4, 1, 1, 2, 0, 0, 1, 3, 3, 0, 0, 1, 4, 4, 0, 2, 1, 3,
                                     2, 7, 5, 0, 2, 1, 3])
        self.assertEqual(given[-4:], [[1], [1], [1], [1]])

    def test_whatever_does_not_use_or_remove_the_names(self):
        later = [create(0, 2), export(0), import_foreign(3, 1), write(0, 0, 1), copy(2, 0),
                 retire(5), clear(0), clear(2), collect(), update()]
        for count in range(len(later) + 1):
            with self.subTest(count=count):
                self.assertEqual(ask(*site(), *later[:count], IMPORT, ENTRY)[-2:], [[1], [1]])

    def test_uses_of_what_is_not_among_the_sources(self):
        self.assertEqual(ask(*site(), arrive(4, 0), IMPORT, ENTRY)[-2:], [[1], [0, 2, 1, 4]])
        self.assertEqual(after(arrive(3, 0), is_current(1, 1, 1)), [1])

    def test_asking_is_no_use(self):
        given = ask(*site(), *[IMPORT] * 5, status())
        self.assertEqual(given[-6:], [[1]] * 5 + [[4, 4, 3, 1, 5, 1]])


class TestTheNameItself(unittest.TestCase):
    def test_an_entry_that_was_used(self):
        self.assertEqual(after(arrive(4, 0), ENTRY), [0, 2, 1, 4])
        self.assertEqual(after(arrive(1, 0), is_current(1, 1, 1)), [0, 2, 1, 1])

    def test_an_import_that_was_used(self):
        self.assertEqual(after(import_foreign(7, 0), IMPORT), [0, 2, 2, 7])
        self.assertEqual(after(import_foreign(7, 0), clear(0), IMPORT), [0, 2, 2, 7])

    def test_an_entry_that_was_exported_from_a_slot(self):
        given = ask(*site(), arrive(1, 0), read(0, 0, 0), read(0, 0, 0), ENTRY, export(0), ENTRY)
        self.assertEqual([given[-3], given[-1]], [[0, 2, 1, 1], [0, 2, 1, 4]])

    def test_an_entry_that_was_retired(self):
        self.assertEqual(after(retire(4), ENTRY), [0, 2, 1, 4])
        self.assertEqual(after(retire(4), update(), ENTRY), [0, 2, 1, 4])

    def test_an_entry_that_was_retired_and_removed(self):
        given = ask(create(0, 0), export(0), clear(0), update(), is_current(1, 1, 1), retire(1),
                    is_current(1, 1, 1), collect(), is_current(1, 1, 1))
        self.assertEqual([given[4], given[6], given[7], given[8]],
                         [[1], [0, 2, 1, 1], [1, 1, 0], [0, 2, 1, 1]])

    def test_an_import_that_was_removed_and_became_one_again(self):
        given = ask(import_foreign(5, 0), clear(0), update(), is_current(1, 2, 5), collect(),
                    is_current(1, 2, 5), import_foreign(5, 0), is_current(1, 2, 5), clear(0),
                    update(), is_current(1, 2, 5), is_current(2, 2, 5))
        self.assertEqual([given[3], given[5], given[7], given[10], given[11]],
                         [[1], [0, 2, 2, 5], [0, 2, 2, 5], [0, 2, 2, 5], [1]])

    def test_one_whose_stamp_is_the_first(self):
        given = ask(import_foreign(5, 0), clear(0), update(), collect(), is_current(1, 2, 5))
        self.assertEqual(given[-1], [0, 2, 2, 5])


class TestTheSources(unittest.TestCase):
    def test_each_that_was_used(self):
        for number in (1, 3):
            with self.subTest(number=number):
                given = ask(*site(), arrive(number, 5), IMPORT, ENTRY, clear(5), IMPORT, ENTRY)
                self.assertEqual([given[-5], given[-4], given[-2], given[-1]],
                                 [[0, 2, 1, number]] * 4)

    def test_each_that_was_retired(self):
        for number in (1, 3):
            with self.subTest(number=number):
                given = ask(*site(), retire(number), IMPORT, ENTRY, collect(), update(), IMPORT,
                            ENTRY)
                self.assertEqual([given[-6], given[-5], given[-2], given[-1]],
                                 [[0, 2, 1, number]] * 4)

    def test_one_that_was_retired_and_exported_again(self):
        # Entry 1 is on the way from entry 2, so it comes to a slot without a use of its own.
        calls = [create(0, 1), create(1, 1), write(1, 0, 0), import_foreign(7, 2), write(0, 0, 2),
                 export(0), export(1), clear(0), clear(1), clear(2), update()]
        line = is_current(1, 2, 7)
        given = ask(*calls, line, arrive(2, 0), line, read(0, 0, 0), line, retire(1), line,
                    export(0), line, clear(0), line)
        self.assertEqual(given[len(calls)::2], [[1], [0, 2, 1, 2], [0, 2, 1, 2], [0, 2, 1, 1],
                                                [0, 2, 1, 1], [0, 2, 1, 1]])

    def test_the_name_goes_first_and_then_the_sources_in_their_order(self):
        given = ask(*site(), arrive(3, 0), ENTRY, arrive(1, 0), ENTRY, arrive(4, 0), ENTRY, IMPORT,
                    import_foreign(7, 0), IMPORT)
        self.assertEqual([given[-8], given[-6], given[-4], given[-3], given[-1]],
                         [[0, 2, 1, 3], [0, 2, 1, 1], [0, 2, 1, 4], [0, 2, 1, 1], [0, 2, 2, 7]])

    def test_several_that_were_used_and_retired(self):
        self.assertEqual(after(retire(3), arrive(1, 0), IMPORT), [0, 2, 1, 1])
        self.assertEqual(after(retire(1), arrive(3, 0), IMPORT), [0, 2, 1, 1])
        self.assertEqual(after(arrive(1, 0), retire(3), retire(4), ENTRY), [0, 2, 1, 4])

    def test_a_source_that_led_to_the_name_then_and_leads_no_more(self):
        # Entry 1 is cut from the import, is not in a slot any more, and was used for that.
        given = ask(*site(), arrive(1, 0), write(0, 0, 5), clear(0), update(), is_current(2, 2, 7),
                    arrive(1, 0), is_current(2, 2, 7), IMPORT)
        self.assertEqual([given[-4], given[-2], given[-1]], [[1], [1], [0, 2, 1, 1]])

    def test_an_entry_on_a_cycle(self):
        calls = [create(0, 1), create(1, 1), write(0, 0, 1), write(1, 0, 0), export(0), export(1),
                 clear(0), clear(1), update()]
        given = ask(*calls, is_current(1, 1, 1), is_current(1, 1, 2), arrive(2, 0),
                    is_current(1, 1, 1), is_current(1, 1, 2))
        self.assertEqual(given[len(calls):], [[1], [1], [3], [0, 2, 1, 2], [0, 2, 1, 2]])


class TestSeveralSurveys(unittest.TestCase):
    def test_the_stamps_are_those_of_that_survey(self):
        given = ask(*site(), arrive(1, 0), clear(0), update(), IMPORT, is_current(2, 2, 7),
                    arrive(3, 0), clear(0), update(), IMPORT, is_current(2, 2, 7),
                    is_current(3, 2, 7))
        self.assertEqual([given[-8], given[-7]], [[0, 2, 1, 1], [1]])
        self.assertEqual(given[-3:], [[0, 2, 1, 1], [0, 2, 1, 3], [1]])

    def test_rooted_is_that_of_that_survey(self):
        given = ask(*site(), import_foreign(7, 0), update(), clear(0), update(), IMPORT,
                    is_current(2, 2, 7), is_current(3, 2, 7))
        self.assertEqual(given[-3:], [[0, 2, 2, 7], [0, 1], [1]])

    def test_a_line_of_an_older_survey_may_be_current_too(self):
        given = ask(*site(), *[update()] * 29, *[is_current(index, 2, 7) for index in range(1, 31)],
                    is_current(31, 2, 7))
        self.assertEqual(given[-31:], [[1]] * 30 + [[-7]])

    def test_a_line_never_becomes_current_again(self):
        later = [arrive(1, 0), clear(0), update(), retire(1), collect(), update(), retire(3),
                 retire(4), collect(), import_foreign(7, 0), export(0), clear(0), update(),
                 create(0, 0), export(0)]
        for count in range(1, len(later) + 1):
            with self.subTest(count=count):
                self.assertEqual(after(*later[:count], IMPORT)[:2], [0, 2])


class TestRefused(unittest.TestCase):
    def test_no_such_survey(self):
        for index in (0, -1, 2, 31, LEAST, MOST):
            with self.subTest(index=index):
                self.assertEqual(after(is_current(index, 2, 7)), [-7])
                self.assertEqual(last(is_current(index, 1, 1)), [-7])

    def test_no_line_for_the_name(self):
        for kind, number in ((1, 2), (1, 7), (1, 5), (1, 0), (1, -1), (1, LEAST), (1, MOST),
                             (2, 1), (2, 4), (2, 0), (2, -7), (2, 21), (2, LEAST), (2, MOST)):
            with self.subTest(kind=kind, number=number):
                self.assertEqual(after(is_current(1, kind, number)), [-6])

    def test_a_name_that_is_newer_or_older_than_the_survey(self):
        given = ask(*site(), import_foreign(3, 0), retire(4), update(), is_current(1, 2, 3),
                    is_current(2, 2, 3), is_current(1, 1, 4), is_current(2, 1, 4))
        self.assertEqual(given[-4:], [[-6], [0, 1], [0, 2, 1, 4], [-6]])

    def test_the_kind_goes_first_and_then_the_survey(self):
        for kind in (0, 3, -1, LEAST, MOST):
            with self.subTest(kind=kind):
                self.assertEqual(after(is_current(1, kind, 7)), [-1])
                self.assertEqual(after(is_current(2, kind, 99)), [-1])
                self.assertEqual(last(is_current(1, kind, 1)), [-1])
        self.assertEqual(after(is_current(2, 2, 99)), [-7])


if __name__ == "__main__":
    unittest.main()
