"""Point 4: push, how a change comes to the house, and how the answer comes back."""

import unittest

from lines import (
    SHARED_DATE, at_house, calendar_behind, clashes_on, forget, last, make, pull, push, remove, set_, shown_on, told,
)


class TestHow(unittest.TestCase):
    def test_0_is_done(self):
        calls = (make(1, 4, 5, 6), push(1))
        self.assertEqual(last(*calls), [1])
        self.assertEqual(at_house(*calls), [[0, 4, 5, 6]])
        self.assertEqual(last(*calls, push(1)), [-6])

    def test_1_does_not_come(self):
        calls = (make(1), push(1, 1))
        self.assertEqual(last(*calls), [0])
        self.assertEqual(at_house(*calls), [])
        self.assertEqual(last(*calls, pull(0)), [1, 0])
        self.assertEqual(last(*calls, push(1)), [1])

    def test_2_comes_but_is_not_answered(self):
        calls = (make(1, 4, 5, 6), push(1, 2))
        self.assertEqual(last(*calls), [0])
        self.assertEqual(at_house(*calls), [[0, 4, 5, 6]])
        self.assertEqual(shown_on(1, *calls), [[1101, 4, 5, 6]])
        self.assertEqual(last(*calls, pull(0)), [1, 1])

    def test_3_is_refused(self):
        self.assertEqual(told(make(1), push(1, 3), push(1, 9), pull(0), push(1)),
                         [[1101], [-1], [-1], [1, 0], [1]])

    def test_nothing_waits(self):
        self.assertEqual(told(push(0), push(0, 1), push(0, 2), push(0, 3)), [[-6], [-6], [-6], [-1]])

    def test_devices_2_and_3(self):
        self.assertEqual(told(make(2), push(2), push(3), push(3, 3), push(9)), [[1201], [1], [-3], [-3], [-3]])

    def test_what_waits_elsewhere_does_not_go(self):
        self.assertEqual(told(make(0), push(1), push(0)), [[1001], [-6], [1]])

    def test_the_first_that_waits_goes_first(self):
        calls = (make(0, 1, 1, 1), make(0, 2, 2, 2), push(0))
        self.assertEqual(at_house(*calls), [[0, 1, 1, 1]])
        self.assertEqual(at_house(*calls, push(0)), [[0, 1, 1, 1], [1, 2, 2, 2]])


class TestNothingIsDoneTwice(unittest.TestCase):
    def test_make_pushed_again(self):
        calls = (make(0, 1, 2, 3), push(0, 2), push(0, 2), push(0, 1), push(0))
        self.assertEqual(told(*calls)[1:], [[0], [0], [0], [1]])
        self.assertEqual(at_house(*calls), [[0, 1, 2, 3]])
        self.assertEqual(last(*calls, push(0)), [-6])
        self.assertEqual(last(*calls, pull(1)), [1, 1])

    def test_set_pushed_again_does_not_undo_what_came_between(self):
        calls = SHARED_DATE + (set_(0, 0, 0, 5), push(0, 2), pull(1), set_(1, 0, 0, 6), push(1), push(0))
        self.assertEqual(told(*calls)[5:], [[2], [0], [1, 1], [1], [1], [1]])
        self.assertEqual(at_house(*calls), [[0, 6, 20, 30]])

    def test_remove_pushed_again_is_still_done(self):
        calls = SHARED_DATE + (remove(0, 0), push(0, 2), push(0))
        self.assertEqual(last(*calls), [1])
        self.assertEqual(last(*calls, pull(1)), [1, 1])

    def test_not_done_stays_not_done(self):
        calls = SHARED_DATE + (set_(0, 0, 0, 5), push(0), set_(1, 0, 0, 6), push(1, 2), push(1))
        self.assertEqual(told(*calls)[8:], [[0], [2]])
        self.assertEqual(at_house(*calls), [[0, 5, 20, 30]])
        self.assertEqual(clashes_on(1, *calls), [[1, 0, 0, 0, 6]])

    def test_the_next_count_is_done_behind_a_not_done(self):
        calls = SHARED_DATE + (set_(0, 0, 0, 5), push(0), set_(1, 0, 0, 6), set_(1, 0, 1, 7), push(1), push(1))
        self.assertEqual(told(*calls)[9:], [[2], [1]])
        self.assertEqual(at_house(*calls), [[0, 5, 7, 30]])

    def test_each_device_has_counts_of_its_own(self):
        self.assertEqual(told(make(0), make(0), push(0), push(0), make(1), push(1), pull(2))[2:],
                         [[1], [1], [1101], [1], [1, 3]])


class TestWhatAnotherChangedMeanwhile(unittest.TestCase):
    def pushed_behind(self, first, second):
        """Device 0 brings in `first`, then device 1 `second`, made before it knew of that."""
        calls = SHARED_DATE + (first, second, push(0), push(1))
        return last(*calls), at_house(*calls), clashes_on(1, *calls)

    def test_same_field(self):
        self.assertEqual(self.pushed_behind(set_(0, 0, 1, 5), set_(1, 0, 1, 6)),
                         ([2], [[0, 10, 5, 30]], [[1, 0, 0, 1, 6]]))

    def test_same_field_set_to_the_same(self):
        self.assertEqual(self.pushed_behind(set_(0, 0, 1, 5), set_(1, 0, 1, 5))[0], [2])

    def test_another_field(self):
        self.assertEqual(self.pushed_behind(set_(0, 0, 1, 5), set_(1, 0, 2, 6)), ([1], [[0, 10, 5, 6]], []))

    def test_date_taken_out_by_the_other(self):
        self.assertEqual(self.pushed_behind(remove(0, 0), set_(1, 0, 1, 6)), ([2], [], [[1, 0, 0, 1, 6]]))

    def test_both_take_it_out(self):
        self.assertEqual(self.pushed_behind(remove(0, 0), remove(1, 0)), ([2], [], [[1, 1, 0, 0, 0]]))

    def test_taken_out_where_any_field_was_set(self):
        for field in range(3):
            answer, dates, clashing = self.pushed_behind(set_(0, 0, field, 5), remove(1, 0))
            self.assertEqual((answer, len(dates), clashing), ([2], 1, [[1, 1, 0, 0, 0]]))

    def test_another_date(self):
        two_dates = (make(0), make(0), push(0), push(0), pull(0), pull(1))
        for first in (set_(0, 1, 0, 5), remove(0, 1)):
            for second in (set_(1, 0, 0, 6), remove(1, 0)):
                self.assertEqual(last(*two_dates, first, second, push(0), push(1)), [1])

    def test_make_is_done_whatever_came_between(self):
        self.assertEqual(self.pushed_behind(remove(0, 0), make(1, 4, 5, 6)), ([1], [[1, 4, 5, 6]], []))

    def test_what_the_device_knew_of_does_not_count(self):
        calls = SHARED_DATE + (set_(0, 0, 1, 5), push(0), pull(1))
        self.assertEqual(last(*calls, set_(1, 0, 1, 6), push(1)), [1])
        self.assertEqual(last(*calls, remove(1, 0), push(1)), [1])

    def test_it_counts_what_was_known_when_the_change_was_made(self):
        calls = SHARED_DATE + (set_(1, 0, 1, 6), set_(0, 0, 1, 5), push(0), pull(1), push(1))
        self.assertEqual(last(*calls), [2])

    def test_just_one_change_behind_what_was_known(self):
        calls = SHARED_DATE + (set_(0, 0, 0, 5), push(0), pull(1), set_(2, 0, 0, 7), set_(1, 0, 0, 6), push(1))
        self.assertEqual(last(*calls), [1])
        self.assertEqual(last(*calls, push(2)), [2])

    def test_own_changes_do_not_stand_against_one(self):
        calls = SHARED_DATE + (set_(0, 0, 0, 5), set_(0, 0, 0, 6), remove(0, 0), push(0), push(0), push(0))
        self.assertEqual(told(*calls)[8:], [[1], [1], [1]])

    def test_a_not_done_change_stands_against_nothing(self):
        calls = SHARED_DATE + (set_(2, 0, 0, 1), set_(0, 0, 0, 5), set_(1, 0, 0, 6), push(0), pull(2))
        self.assertEqual(told(*calls, set_(2, 0, 0, 7), push(1), push(2), push(2))[10:], [[2], [2], [2], [1]])

    def test_date_that_is_not_there_now(self):
        # Pulled while its making still waits, the date is shown under both numbers, and can be taken out by either.
        calls = (make(0), push(0, 2), pull(0), remove(0, 0), remove(0, 1001), push(0), push(0), push(0))
        self.assertEqual(told(*calls)[3:], [[2], [3], [1], [1], [2]])
        self.assertEqual(clashes_on(0, *calls), [[3, 1, 0, 0, 0]])

    def test_floor_takes_nothing_from_what_stands_against_a_change(self):
        calls = SHARED_DATE + (set_(1, 0, 0, 6), set_(0, 0, 0, 5), push(0), forget(2), push(1))
        self.assertEqual(told(*calls)[8:], [[2], [2]])

    def test_clashes_stand_in_the_order_of_their_answers(self):
        calls = SHARED_DATE + (remove(0, 0), push(0), set_(1, 0, 2, 6), remove(1, 0), push(1), push(1))
        self.assertEqual(clashes_on(1, *calls), [[1, 0, 0, 2, 6], [2, 1, 0, 0, 0]])
        self.assertEqual(clashes_on(0, *calls), [])

    def test_what_is_not_done_is_shown_no_more(self):
        calls = SHARED_DATE + (set_(0, 0, 0, 5), push(0), set_(1, 0, 0, 6), push(1))
        self.assertEqual(shown_on(1, *calls[:-1]), [[0, 6, 20, 30]])
        self.assertEqual(shown_on(1, *calls), [[0, 10, 20, 30]])
        self.assertEqual(shown_on(1, *calls, pull(1)), [[0, 5, 20, 30]])


class TestNumbers(unittest.TestCase):
    def test_house_numbers_are_in_the_order_of_coming(self):
        calls = (make(0, 1, 1, 1), make(1, 2, 2, 2), push(1), push(0))
        self.assertEqual(at_house(*calls), [[0, 2, 2, 2], [1, 1, 1, 1]])

    def test_numbers_are_not_given_again(self):
        calls = (make(0), remove(0, 1001), make(0, 7, 7, 7), push(0), push(0), push(0))
        self.assertEqual(at_house(*calls), [[1, 7, 7, 7]])

    def test_house_number_is_shown_once_answered(self):
        calls = (make(1), push(1), make(0, 4, 5, 6), push(0))
        self.assertEqual(shown_on(0, *calls), [[1, 4, 5, 6]])
        self.assertEqual(told(*calls, set_(0, 1003, 0, 0), set_(0, 1001, 0, 0), set_(0, 1, 0, 0))[4:],
                         [[-4], [-4], [2]])

    def test_own_number_holds_till_the_answer(self):
        self.assertEqual(last(make(0), push(0, 2), set_(0, 1001, 0, 5)), [2])
        self.assertEqual(last(make(0), push(0, 2), set_(0, 0, 0, 5)), [-4])

    def test_changes_that_wait_bear_the_house_number(self):
        calls = (make(1), push(1), make(0, 1, 2, 3), set_(0, 1001, 1, 9), make(0), remove(0, 1003), push(0))
        waiting = calendar_behind(*calls).devices[0].waiting
        self.assertEqual([change.date for change in waiting], [1, 1003, 1003])
        self.assertEqual(shown_on(0, *calls), [[1, 1, 9, 3]])
        self.assertEqual(told(*calls, push(0), push(0), push(0), push(0))[7:], [[1], [1], [1], [-6]])
        self.assertEqual(at_house(*calls, push(0)), [[0, 1, 2, 3], [1, 1, 9, 3]])

    def test_another_device_changed_the_date_before_its_making_was_answered(self):
        calls = (make(0), set_(0, 1001, 0, 5), set_(0, 1001, 1, 5), push(0, 2),
                 pull(1), set_(1, 0, 0, 6), push(1), push(0), push(0), push(0))
        self.assertEqual(told(*calls)[7:], [[1], [2], [1]])
        self.assertEqual(at_house(*calls), [[0, 6, 5, 3]])
        self.assertEqual(clashes_on(0, *calls), [[2, 0, 0, 0, 5]])


class TestAnswered(unittest.TestCase):
    def answered(self, device, *calls):
        return [change.count for change in calendar_behind(*calls).devices[device].answered]

    def test_done_and_not_known_yet(self):
        calls = (make(1), push(1), make(0, 1, 2, 3), set_(0, 1001, 0, 9), push(0), push(0))
        self.assertEqual(self.answered(0, *calls), [1, 2])
        self.assertEqual(shown_on(0, *calls), [[1, 9, 2, 3]])

    def test_answered_is_shown_below_what_waits(self):
        calls = SHARED_DATE + (set_(0, 0, 0, 5), push(0), set_(0, 0, 0, 6))
        self.assertEqual(shown_on(0, *calls), [[0, 6, 20, 30]])

    def test_known_already_by_a_pull_between(self):
        calls = (make(0, 1, 2, 3), push(0, 2), pull(0))
        self.assertEqual(shown_on(0, *calls), [[0, 1, 2, 3], [1001, 1, 2, 3]])
        self.assertEqual(last(*calls, push(0)), [1])
        self.assertEqual(self.answered(0, *calls, push(0)), [])
        self.assertEqual(shown_on(0, *calls, push(0)), [[0, 1, 2, 3]])

    def test_not_known_where_the_pull_came_ahead(self):
        calls = (make(1), push(1), pull(0), make(0), push(0, 2), push(0))
        self.assertEqual(self.answered(0, *calls), [1])

    def test_not_done_is_not_answered_as_done(self):
        calls = SHARED_DATE + (remove(0, 0), push(0), remove(1, 0), push(1))
        self.assertEqual(self.answered(1, *calls), [])


if __name__ == "__main__":
    unittest.main()
