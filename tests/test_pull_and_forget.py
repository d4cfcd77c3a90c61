"""Points 5 and 6: pull and forget."""

import unittest

from lines import SHARED_DATE, calendar_behind, forget, last, make, pull, push, remove, set_, shown_on, told

THREE_CHANGES = (make(0, 1, 1, 1), make(0, 2, 2, 2), make(0, 3, 3, 3), push(0), push(0), push(0))


class TestPull(unittest.TestCase):
    def test_how_many_changes_more(self):
        self.assertEqual(told(pull(1), make(0), push(0), pull(1), pull(1)), [[1, 0], [1001], [1], [1, 1], [1, 0]])
        self.assertEqual(last(*THREE_CHANGES, pull(1)), [1, 3])

    def test_own_changes_are_among_them(self):
        self.assertEqual(last(*THREE_CHANGES, pull(0)), [1, 3])

    def test_changes_that_were_not_done_are_not(self):
        calls = SHARED_DATE + (set_(0, 0, 0, 5), set_(1, 0, 0, 6), push(0), push(1), pull(2))
        self.assertEqual(last(*calls), [1, 1])

    def test_taken_out_is_a_change_more(self):
        self.assertEqual(last(*SHARED_DATE, remove(0, 0), push(0), pull(1)), [1, 1])

    def test_it_is_shown_then(self):
        self.assertEqual(shown_on(1, *THREE_CHANGES), [])
        self.assertEqual(shown_on(1, *THREE_CHANGES, pull(1)), [[0, 1, 1, 1], [1, 2, 2, 2], [2, 3, 3, 3]])

    def test_what_waits_is_shown_on_top(self):
        calls = SHARED_DATE + (set_(1, 0, 0, 6), make(1, 7, 7, 7), set_(0, 0, 0, 5), set_(0, 0, 1, 5), push(0), push(0))
        self.assertEqual(shown_on(1, *calls, pull(1)), [[0, 6, 5, 30], [1102, 7, 7, 7]])

    def test_a_waiting_change_of_a_date_that_is_gone_does_nothing(self):
        calls = SHARED_DATE + (set_(1, 0, 0, 6), remove(0, 0), push(0), pull(1))
        self.assertEqual(shown_on(1, *calls), [])
        self.assertEqual(last(*calls, remove(1, 0)), [-4])
        self.assertEqual(last(*calls, push(1)), [2])

    def test_answered_is_among_what_is_known(self):
        calls = THREE_CHANGES + (set_(0, 1, 1, 9), push(0))
        self.assertEqual(len(calendar_behind(*calls).devices[0].answered), 4)
        calendar = calendar_behind(*calls, pull(0))
        self.assertEqual((calendar.devices[0].answered, calendar.devices[0].knows), ([], 4))
        self.assertEqual(shown_on(0, *calls, pull(0)), [[0, 1, 1, 1], [1, 2, 9, 2], [2, 3, 3, 3]])

    def test_1_nothing_comes_back(self):
        calls = (make(0), push(0), pull(1, 1))
        self.assertEqual(last(*calls), [0])
        self.assertEqual(last(*calls, set_(1, 0, 0, 0)), [-4])
        self.assertEqual(last(*calls, pull(1)), [1, 1])
        self.assertEqual(len(calendar_behind(*calls, pull(0, 1)).devices[0].answered), 1)

    def test_2_is_refused(self):
        calls = (make(0), push(0), pull(1, 2), pull(1, 9), pull(1))
        self.assertEqual(told(*calls)[2:], [[-1], [-1], [1, 1]])

    def test_devices_2_and_3(self):
        self.assertEqual(told(pull(2), pull(3), pull(3, 2), pull(9, 1)), [[1, 0], [-3], [-3], [-3]])


class TestToldAnew(unittest.TestCase):
    def test_below_the_floor_all_is_told_anew(self):
        self.assertEqual(told(*THREE_CHANGES, forget(1), pull(1), pull(1))[6:], [[1], [2, 3], [1, 0]])

    def test_dates_are_counted_not_changes(self):
        calls = THREE_CHANGES + (remove(0, 1), set_(0, 0, 0, 9), push(0), push(0), forget(4))
        self.assertEqual(last(*calls, pull(1)), [2, 2])

    def test_no_dates_at_all(self):
        self.assertEqual(last(make(0), remove(0, 1001), push(0), push(0), forget(2), pull(1)), [2, 0])

    def test_dates_that_wait_there_are_not_counted(self):
        self.assertEqual(last(*THREE_CHANGES, make(1), forget(3), pull(1)), [2, 3])

    def test_the_floor_itself_and_one_below_it(self):
        knows_one = (make(0), push(0), pull(1), make(0), make(0), push(0), push(0))
        self.assertEqual(last(*knows_one, forget(1), pull(1)), [1, 2])
        self.assertEqual(last(*knows_one, forget(2), pull(1)), [2, 3])

    def test_it_is_shown_then_and_answered_no_more(self):
        calls = THREE_CHANGES + (make(0, 7, 7, 7), forget(3), pull(0))
        self.assertEqual(last(*calls), [2, 3])
        self.assertEqual(shown_on(0, *calls), [[0, 1, 1, 1], [1, 2, 2, 2], [2, 3, 3, 3], [1004, 7, 7, 7]])
        self.assertEqual(calendar_behind(*calls).devices[0].answered, [])

    def test_what_got_lost_or_is_refused_tells_nothing(self):
        self.assertEqual(told(*THREE_CHANGES, forget(3), pull(1, 1), pull(1, 2), pull(1))[7:], [[0], [-1], [2, 3]])


class TestForget(unittest.TestCase):
    def test_answers_n(self):
        self.assertEqual(told(*THREE_CHANGES, forget(0), forget(2), forget(3))[6:], [[0], [2], [3]])

    def test_nothing_to_forget_at_first(self):
        self.assertEqual(told(forget(0), forget(1), forget(300)), [[0], [-1], [-1]])

    def test_as_many_as_there_are_and_one_more(self):
        self.assertEqual(told(*THREE_CHANGES, forget(4), forget(3))[6:], [[-1], [3]])

    def test_the_floor_itself_and_one_below_it(self):
        self.assertEqual(told(*THREE_CHANGES, forget(2), forget(2), forget(1), forget(0))[6:],
                         [[2], [2], [-1], [-1]])

    def test_what_waits_does_not_count(self):
        self.assertEqual(last(make(0), forget(1)), [-1])
        self.assertEqual(last(make(0), push(0, 1), forget(1)), [-1])
        self.assertEqual(last(make(0), push(0, 2), forget(1)), [1])

    def test_a_refusal_leaves_the_floor(self):
        self.assertEqual(told(*THREE_CHANGES, forget(4), pull(1))[6:], [[-1], [1, 3]])
        self.assertEqual(told(*THREE_CHANGES, forget(2), forget(1), pull(1), forget(3))[6:], [[2], [-1], [2, 3], [3]])

    def test_no_date_is_lost(self):
        calls = SHARED_DATE + (forget(1),)
        self.assertEqual(shown_on(1, *calls), [[0, 10, 20, 30]])
        self.assertEqual(last(*calls, set_(1, 0, 0, 0)), [1])


if __name__ == "__main__":
    unittest.main()
