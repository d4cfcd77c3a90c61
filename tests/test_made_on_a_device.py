"""Points 1 to 3: make, set, remove."""

import unittest

from lines import SHARED_DATE, at_house, calendar_behind, last, make, pull, push, remove, set_, shown_on, told

TWENTY_WAIT = [make(0)] * 20


def as_many_made(count):
    """Far more calls than a line has: 99 changes on one device don't fit in 80 calls."""
    return [make(0), push(0)] * count


class TestMake(unittest.TestCase):
    def test_own_number_is_1000_and_the_device_and_the_count(self):
        self.assertEqual(
            told(make(0), make(0), make(1), make(2), make(2), make(2)),
            [[1001], [1002], [1101], [1201], [1202], [1203]])

    def test_count_goes_on_across_kinds_of_change(self):
        self.assertEqual(
            told(make(1), set_(1, 1101, 0, 5), remove(1, 1101), make(1)),
            [[1101], [2], [3], [1104]])

    def test_count_goes_on_behind_a_push(self):
        self.assertEqual(told(make(0), push(0), make(0)), [[1001], [1], [1002]])

    def test_date_is_shown_there_alone_with_its_fields(self):
        calls = (make(0, 7, 8, 9), make(0, 0, 999, 1))
        self.assertEqual(shown_on(0, *calls), [[1001, 7, 8, 9], [1002, 0, 999, 1]])
        self.assertEqual(shown_on(1, *calls), [])
        self.assertEqual(at_house(*calls), [])

    def test_fields_of_999_and_1000(self):
        self.assertEqual(last(make(0, 999, 999, 999)), [1001])
        for fields in ((1000, 0, 0), (0, 1000, 0), (0, 0, 1000), (2000, 2000, 2000)):
            self.assertEqual(told(make(0, *fields), make(0)), [[-1], [1001]])

    def test_devices_2_and_3(self):
        self.assertEqual(told(make(2), make(3), make(9)), [[1201], [-3], [-3]])

    def test_no_device_ahead_of_field(self):
        self.assertEqual(last(make(3, 1000, 0, 0)), [-3])

    def test_20_wait(self):
        self.assertEqual(told(*TWENTY_WAIT, make(0))[19:], [[1020], [-5]])

    def test_others_may_go_on_while_20_wait(self):
        self.assertEqual(last(*TWENTY_WAIT, make(1)), [1101])

    def test_field_ahead_of_20_wait(self):
        self.assertEqual(last(*TWENTY_WAIT, make(0, 0, 0, 1000)), [-1])

    def test_an_answer_makes_room(self):
        self.assertEqual(last(*TWENTY_WAIT, push(0), make(0)), [1021])

    def test_a_lost_push_or_answer_makes_no_room(self):
        self.assertEqual(last(*TWENTY_WAIT, push(0, 1), make(0)), [-5])
        self.assertEqual(last(*TWENTY_WAIT, push(0, 2), make(0)), [-5])

    def test_99_were_made(self):
        self.assertEqual(last(*as_many_made(98), make(0)), [1099])
        self.assertEqual(last(*as_many_made(99), make(0)), [-5])
        self.assertEqual(last(*as_many_made(99), make(1)), [1101])


class TestSet(unittest.TestCase):
    def test_answers_the_count(self):
        self.assertEqual(told(*SHARED_DATE, set_(0, 0, 0, 5), set_(1, 0, 1, 5), set_(0, 0, 0, 6))[5:],
                         [[2], [1], [3]])

    def test_each_field_is_shown_there_alone(self):
        calls = SHARED_DATE + (set_(1, 0, 0, 5), set_(1, 0, 2, 0))
        self.assertEqual(shown_on(1, *calls), [[0, 5, 20, 0]])
        self.assertEqual(shown_on(0, *calls), [[0, 10, 20, 30]])
        self.assertEqual(at_house(*calls), [[0, 10, 20, 30]])

    def test_of_a_date_that_waits(self):
        self.assertEqual(shown_on(0, make(0, 1, 2, 3), set_(0, 1001, 1, 9)), [[1001, 1, 9, 3]])

    def test_field_2_and_3(self):
        self.assertEqual(told(make(0), set_(0, 1001, 2, 0), set_(0, 1001, 3, 0), set_(0, 1001, 9, 0))[1:],
                         [[2], [-1], [-1]])

    def test_what_of_999_and_1000(self):
        self.assertEqual(told(make(0), set_(0, 1001, 0, 999), set_(0, 1001, 0, 1000), set_(0, 1001, 0, 2000))[1:],
                         [[2], [-1], [-1]])

    def test_date_that_is_not_shown(self):
        self.assertEqual(last(set_(0, 0, 0, 0)), [-4])
        self.assertEqual(last(make(0), set_(0, 1000, 0, 0)), [-4])
        self.assertEqual(last(make(0), set_(0, 1002, 0, 0)), [-4])
        self.assertEqual(last(make(0), set_(0, 1400, 0, 0)), [-4])

    def test_own_number_of_another_device(self):
        self.assertEqual(last(make(0), set_(1, 1001, 0, 0)), [-4])

    def test_date_that_was_not_pulled_yet(self):
        calls = (make(0), push(0))
        self.assertEqual(last(*calls, set_(1, 0, 0, 0)), [-4])
        self.assertEqual(last(*calls, pull(1), set_(1, 0, 0, 0)), [1])

    def test_date_that_was_taken_out_there(self):
        calls = SHARED_DATE + (remove(0, 0),)
        self.assertEqual(last(*calls, set_(0, 0, 0, 0)), [-4])
        self.assertEqual(last(*calls, set_(1, 0, 0, 0)), [1])

    def test_devices_2_and_3(self):
        self.assertEqual(told(*SHARED_DATE, set_(2, 0, 0, 0), set_(3, 0, 0, 0))[5:], [[1], [-3]])

    def test_order_of_refusals(self):
        self.assertEqual(last(set_(3, 0, 3, 1000)), [-3])
        self.assertEqual(last(set_(3, 0, 0, 0)), [-3])
        self.assertEqual(last(set_(0, 0, 3, 0)), [-1])
        self.assertEqual(last(set_(0, 0, 0, 1000)), [-1])
        self.assertEqual(last(*TWENTY_WAIT, set_(0, 1001, 3, 0)), [-1])
        self.assertEqual(last(*TWENTY_WAIT, set_(0, 5, 0, 0)), [-4])

    def test_20_wait(self):
        self.assertEqual(told(*TWENTY_WAIT[:19], set_(0, 1001, 0, 0), set_(0, 1001, 0, 0))[19:], [[20], [-5]])

    def test_99_were_made(self):
        self.assertEqual(last(*as_many_made(98), set_(0, 0, 0, 0)), [99])
        self.assertEqual(last(*as_many_made(99), set_(0, 0, 0, 0)), [-5])

    def test_refusals_change_nothing(self):
        refused = (set_(0, 0, 3, 0), set_(0, 0, 0, 1000), set_(0, 1, 0, 0), set_(3, 0, 0, 0))
        self.assertEqual(shown_on(0, *SHARED_DATE, *refused), [[0, 10, 20, 30]])
        self.assertEqual(told(*SHARED_DATE, *refused, push(0), set_(0, 0, 0, 0))[9:], [[-6], [2]])


class TestRemove(unittest.TestCase):
    def test_answers_the_count(self):
        self.assertEqual(told(*SHARED_DATE, remove(0, 0), remove(1, 0))[5:], [[2], [1]])

    def test_it_is_not_shown_there_any_more(self):
        calls = SHARED_DATE + (make(1, 4, 5, 6), remove(1, 0))
        self.assertEqual(shown_on(1, *calls), [[1101, 4, 5, 6]])
        self.assertEqual(shown_on(0, *calls), [[0, 10, 20, 30]])
        self.assertEqual(at_house(*calls), [[0, 10, 20, 30]])

    def test_of_a_date_that_waits(self):
        self.assertEqual(told(make(0), remove(0, 1001), remove(0, 1001)), [[1001], [2], [-4]])

    def test_date_that_is_not_shown(self):
        self.assertEqual(last(remove(0, 0)), [-4])
        self.assertEqual(last(make(0), remove(1, 1001)), [-4])
        self.assertEqual(last(make(0), push(0), remove(1, 0)), [-4])

    def test_devices_2_and_3(self):
        self.assertEqual(told(*SHARED_DATE, remove(2, 0), remove(3, 0), remove(3, 5))[5:], [[1], [-3], [-3]])

    def test_20_wait(self):
        self.assertEqual(told(*TWENTY_WAIT[:19], remove(0, 1001), remove(0, 1002))[19:], [[20], [-5]])

    def test_not_shown_ahead_of_20_wait(self):
        self.assertEqual(last(*TWENTY_WAIT, remove(0, 5)), [-4])

    def test_99_were_made(self):
        self.assertEqual(last(*as_many_made(98), remove(0, 0)), [99])
        self.assertEqual(last(*as_many_made(99), remove(0, 0)), [-5])

    def test_refusals_change_nothing(self):
        refused = (remove(0, 7), remove(3, 0))
        self.assertEqual(shown_on(0, *SHARED_DATE, *refused), [[0, 10, 20, 30]])
        self.assertEqual(told(*SHARED_DATE, *refused, push(0), remove(0, 0))[7:], [[-6], [2]])


class TestWhatAChangeRemembers(unittest.TestCase):
    def test_how_many_changes_the_device_knew(self):
        calls = (make(0), make(1), push(1), pull(0), make(0), push(0), make(0))
        waiting = calendar_behind(*calls).devices[0].waiting
        self.assertEqual([(change.count, change.knew) for change in waiting], [(2, 1), (3, 1)])


if __name__ == "__main__":
    unittest.main()
