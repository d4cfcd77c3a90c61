"""Point 7: shown, house, clashes, state."""

import unittest

from lines import (
    SHARED_DATE, all_told, at_house, clashes, clashes_on, forget, house, last, make, pull, push, remove, set_, settle,
    shown, shown_on, state, state_of, told,
)

# On device 1 a field set, then a date taken out, are answered as not done.
TWO_CLASHES = SHARED_DATE + (
    set_(0, 0, 2, 5), push(0), set_(1, 0, 2, 6), remove(1, 0), push(1), push(1))


class TestShown(unittest.TestCase):
    def test_no_dates(self):
        self.assertEqual(told(shown(0), shown(1), shown(2)), [[0], [0], [0]])

    def test_how_many_then_number_and_three_fields_each(self):
        self.assertEqual(last(make(0, 7, 8, 9), make(0, 0, 999, 1), shown(0)), [2, 1001, 7, 8, 9, 1002, 0, 999, 1])

    def test_devices_2_and_3(self):
        self.assertEqual(told(make(2, 7, 8, 9), shown(2), shown(3), shown(9))[1:], [[1, 1201, 7, 8, 9], [-3], [-3]])

    def test_own_number_till_the_answer_then_that_of_the_house(self):
        calls = (make(0), push(0), make(1, 4, 5, 6))
        self.assertEqual(last(*calls, shown(1)), [1, 1101, 4, 5, 6])
        self.assertEqual(last(*calls, push(1, 1), shown(1)), [1, 1101, 4, 5, 6])
        self.assertEqual(last(*calls, push(1, 2), shown(1)), [1, 1101, 4, 5, 6])
        self.assertEqual(last(*calls, push(1), shown(1)), [1, 1, 4, 5, 6])
        self.assertEqual(last(*calls, push(1), pull(1), shown(1)), [2, 0, 1, 2, 3, 1, 4, 5, 6])

    def test_known_then_answered_then_waiting(self):
        calls = SHARED_DATE + (make(0, 1, 1, 1), set_(0, 0, 0, 11), push(0), push(0),
                               set_(0, 0, 1, 21), make(0, 2, 2, 2), set_(0, 0, 0, 12))
        self.assertEqual(state_of(0, *calls), [1, 3, 6, 3, 2, 0])
        self.assertEqual(shown_on(0, *calls), [[0, 12, 21, 30], [1, 1, 1, 1], [1005, 2, 2, 2]])

    def test_in_the_order_in_which_they_were_made(self):
        calls = (make(1, 1, 1, 1), push(1), make(0, 2, 2, 2), make(0, 3, 3, 3), push(0), push(0), pull(0), pull(1),
                 make(0, 4, 4, 4), set_(0, 0, 0, 9), remove(0, 1), set_(0, 1003, 1, 8))
        self.assertEqual(shown_on(0, *calls), [[0, 9, 1, 1], [2, 3, 3, 3], [1003, 4, 8, 4]])
        self.assertEqual(shown_on(1, *calls), [[0, 1, 1, 1], [1, 2, 2, 2], [2, 3, 3, 3]])

    def test_another_one_ahead_at_the_house_is_ahead_once_known(self):
        calls = (make(1, 1, 1, 1), make(0, 2, 2, 2), push(0), push(1))
        self.assertEqual(shown_on(1, *calls), [[1, 1, 1, 1]])
        self.assertEqual(shown_on(1, *calls, pull(1)), [[0, 2, 2, 2], [1, 1, 1, 1]])

    def test_others_changes_are_shown_once_pulled(self):
        calls = SHARED_DATE + (set_(0, 0, 0, 11), push(0))
        self.assertEqual(shown_on(1, *calls), [[0, 10, 20, 30]])
        self.assertEqual(shown_on(1, *calls, pull(1, 1)), [[0, 10, 20, 30]])
        self.assertEqual(shown_on(1, *calls, pull(1)), [[0, 11, 20, 30]])

    def test_an_answered_change_of_a_date_that_others_took_out_meanwhile(self):
        calls = SHARED_DATE + (set_(0, 0, 0, 11), push(0), pull(1), remove(1, 0), push(1))
        self.assertEqual(shown_on(0, *calls), [[0, 11, 20, 30]])
        self.assertEqual(shown_on(0, *calls, pull(0)), [])

    def test_a_waiting_change_of_a_date_that_is_gone_does_nothing(self):
        calls = SHARED_DATE + (set_(1, 0, 0, 11), make(1, 4, 5, 6), remove(0, 0), push(0), pull(1))
        self.assertEqual(shown_on(1, *calls), [[1102, 4, 5, 6]])

    def test_lost_answer_of_a_make_and_a_pull(self):
        calls = (make(0, 1, 2, 3), set_(0, 1001, 0, 9), push(0, 2), pull(0))
        self.assertEqual(shown_on(0, *calls), [[0, 1, 2, 3], [1001, 9, 2, 3]])
        self.assertEqual(shown_on(0, *calls, push(0)), [[0, 9, 2, 3]])

    def test_lost_answer_of_a_set_and_a_pull(self):
        calls = SHARED_DATE + (set_(0, 0, 0, 11), push(0, 2), pull(1), set_(1, 0, 0, 12), push(1), pull(0))
        self.assertEqual(shown_on(0, *calls), [[0, 11, 20, 30]])
        self.assertEqual(shown_on(0, *calls, push(0)), [[0, 12, 20, 30]])

    def test_lost_answer_of_a_remove_and_a_pull(self):
        calls = SHARED_DATE + (remove(0, 0), push(0, 2), pull(0))
        self.assertEqual(last(*calls, shown(0)), [0])
        self.assertEqual(last(*calls, push(0), shown(0)), [0])

    def test_clashes_are_not_shown(self):
        self.assertEqual(shown_on(1, *TWO_CLASHES), [[0, 10, 20, 30]])

    def test_forgetting_takes_nothing_from_it(self):
        self.assertEqual(shown_on(1, *SHARED_DATE, forget(1)), [[0, 10, 20, 30]])


class TestHouse(unittest.TestCase):
    def test_no_dates(self):
        self.assertEqual(last(house()), [0])
        self.assertEqual(last(make(0), push(0, 1), house()), [0])
        self.assertEqual(last(make(0), remove(0, 1001), push(0), push(0), house()), [0])

    def test_how_many_then_number_and_three_fields_each(self):
        self.assertEqual(last(make(0, 7, 8, 9), make(2, 0, 999, 1), push(2), push(0), house()),
                         [2, 0, 0, 999, 1, 1, 7, 8, 9])

    def test_an_answer_that_got_lost_is_there_all_the_same(self):
        self.assertEqual(at_house(make(0, 7, 8, 9), push(0, 2)), [[0, 7, 8, 9]])

    def test_set_and_taken_out(self):
        calls = SHARED_DATE + (make(1, 1, 1, 1), push(1), set_(0, 0, 1, 21), push(0))
        self.assertEqual(at_house(*calls), [[0, 10, 21, 30], [1, 1, 1, 1]])
        self.assertEqual(at_house(*calls, pull(1), remove(1, 0)), [[0, 10, 21, 30], [1, 1, 1, 1]])
        self.assertEqual(at_house(*calls, pull(1), remove(1, 0), push(1)), [[1, 1, 1, 1]])

    def test_what_is_not_done_is_not_there(self):
        self.assertEqual(at_house(*TWO_CLASHES), [[0, 10, 20, 5]])

    def test_forgetting_takes_nothing_from_it(self):
        self.assertEqual(at_house(*SHARED_DATE, forget(1)), [[0, 10, 20, 30]])


class TestClashes(unittest.TestCase):
    def test_none(self):
        self.assertEqual(told(*SHARED_DATE, clashes(0), clashes(1), clashes(2))[5:], [[0], [0], [0]])

    def test_how_many_then_five_numbers_each_in_the_order_of_their_answers(self):
        self.assertEqual(last(*TWO_CLASHES, clashes(1)), [2, 1, 0, 0, 2, 6, 2, 1, 0, 0, 0])

    def test_those_of_that_device_alone(self):
        self.assertEqual(told(*TWO_CLASHES, clashes(0), clashes(2))[11:], [[0], [0]])

    def test_a_field_set(self):
        calls = (make(0), make(0), push(0), push(0), pull(1), set_(1, 1, 2, 999), remove(0, 1), push(0), push(1))
        self.assertEqual(last(*calls, clashes(1)), [1, 1, 0, 1, 2, 999])

    def test_a_date_taken_out(self):
        calls = (make(0), make(0), push(0), push(0), pull(1), make(1), remove(1, 1), remove(0, 1), push(0), push(1))
        self.assertEqual(last(*calls, clashes(1)), [0])
        self.assertEqual(last(*calls, push(1), clashes(1)), [1, 2, 1, 1, 0, 0])

    def test_none_till_the_answer_is_there(self):
        calls = SHARED_DATE + (set_(0, 0, 0, 5), push(0), set_(1, 0, 0, 6))
        self.assertEqual(clashes_on(1, *calls), [])
        self.assertEqual(clashes_on(1, *calls, push(1, 1)), [])
        self.assertEqual(clashes_on(1, *calls, push(1, 2)), [])
        self.assertEqual(clashes_on(1, *calls, push(1, 2), push(1)), [[1, 0, 0, 0, 6]])

    def test_they_stay_through_pull_and_forget(self):
        self.assertEqual(clashes_on(1, *TWO_CLASHES, pull(1), forget(2), make(1), push(1), pull(1)),
                         [[1, 0, 0, 2, 6], [2, 1, 0, 0, 0]])

    def test_the_number_of_the_house_for_a_date_made_there(self):
        calls = (make(2), push(2), make(0), set_(0, 1001, 0, 5), push(0, 2), pull(1), set_(1, 1, 0, 6), push(1),
                 push(0), push(0))
        self.assertEqual(clashes_on(0, *calls), [[2, 0, 1, 0, 5]])

    def test_devices_2_and_3(self):
        self.assertEqual(told(clashes(2), clashes(3), clashes(9)), [[0], [-3], [-3]])


class TestState(unittest.TestCase):
    def test_at_first(self):
        self.assertEqual(told(state(0), state(1), state(2)), [[0] * 6] * 3)

    def test_devices_2_and_3(self):
        self.assertEqual(told(make(2), state(2), state(3), state(9))[1:], [[0, 0, 1, 1, 0, 0], [-3], [-3]])

    def test_behind_make_set_and_remove(self):
        self.assertEqual(
            told(make(0), state(0), set_(0, 1001, 0, 5), state(0), remove(0, 1001), state(0))[1::2],
            [[0, 0, 1, 1, 0, 0], [0, 0, 2, 2, 0, 0], [0, 0, 3, 3, 0, 0]])
        self.assertEqual(state_of(1, make(0), set_(0, 1001, 0, 5)), [0] * 6)

    def test_behind_each_push(self):
        calls = (make(0), make(0))
        self.assertEqual(state_of(0, *calls, push(0)), [0, 1, 2, 1, 1, 0])
        self.assertEqual(state_of(0, *calls, push(0, 1)), [0, 0, 2, 2, 0, 0])
        self.assertEqual(state_of(0, *calls, push(0, 2)), [0, 1, 2, 2, 0, 0])
        self.assertEqual(state_of(0, *calls, push(0, 2), push(0)), [0, 1, 2, 1, 1, 0])
        self.assertEqual(state_of(0, *calls, push(0, 3)), [0, 0, 2, 2, 0, 0])
        self.assertEqual(state_of(1, *calls, push(0)), [0, 1, 0, 0, 0, 0])

    def test_behind_a_push_that_is_not_done(self):
        calls = SHARED_DATE + (set_(0, 0, 0, 5), push(0), set_(1, 0, 0, 6))
        self.assertEqual(state_of(1, *calls), [1, 2, 1, 1, 0, 0])
        self.assertEqual(state_of(1, *calls, push(1, 2)), [1, 2, 1, 1, 0, 0])
        self.assertEqual(state_of(1, *calls, push(1)), [1, 2, 1, 0, 0, 1])

    def test_behind_each_pull(self):
        calls = (make(0), make(0), make(0), push(0), push(0))
        self.assertEqual(state_of(0, *calls), [0, 2, 3, 1, 2, 0])
        self.assertEqual(state_of(0, *calls, pull(0)), [2, 2, 3, 1, 0, 0])
        self.assertEqual(state_of(0, *calls, pull(0, 1)), [0, 2, 3, 1, 2, 0])
        self.assertEqual(state_of(0, *calls, pull(0, 2)), [0, 2, 3, 1, 2, 0])
        self.assertEqual(state_of(1, *calls, pull(0)), [0, 2, 0, 0, 0, 0])
        self.assertEqual(state_of(0, *calls, forget(1), pull(0)), [2, 2, 3, 1, 0, 0])

    def test_an_answer_behind_a_pull_that_had_it(self):
        self.assertEqual(state_of(0, make(0), push(0, 2), pull(0)), [1, 1, 1, 1, 0, 0])
        self.assertEqual(state_of(0, make(0), push(0, 2), pull(0), push(0)), [1, 1, 1, 0, 0, 0])

    def test_behind_each_settle(self):
        self.assertEqual(state_of(1, *TWO_CLASHES), [1, 2, 2, 0, 0, 2])
        self.assertEqual(state_of(1, *TWO_CLASHES, settle(1, 0, 0)), [1, 2, 2, 0, 0, 1])
        self.assertEqual(state_of(1, *TWO_CLASHES, settle(1, 0, 1)), [1, 2, 3, 1, 0, 1])

    def test_six_numbers_that_are_not_alike(self):
        calls = TWO_CLASHES + (make(1), push(1), pull(1), settle(1), make(1), make(1), make(1), make(1), make(1),
                               make(0), make(0), push(0), push(0), push(1), push(1))
        self.assertEqual(state_of(1, *calls), [3, 7, 8, 3, 2, 1])

    def test_forgetting_changes_none_of_it(self):
        self.assertEqual(state_of(1, *TWO_CLASHES, forget(2)), [1, 2, 2, 0, 0, 2])


class TestAskingChangesNothing(unittest.TestCase):
    def test_asked_over_and_over(self):
        calls = TWO_CLASHES + (make(1), push(1), make(1), make(0))
        asked = (house(), shown(1), clashes(1), state(1), shown(3), clashes(3), state(3))
        self.assertEqual(all_told(*calls, *asked, *asked), all_told(*calls))
        self.assertEqual(last(*calls, *asked, push(1)), [1])


if __name__ == "__main__":
    unittest.main()
