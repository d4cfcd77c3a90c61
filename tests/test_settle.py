"""Point 8: settle."""

import unittest

from lines import (
    SHARED_DATE, all_told, at_house, clashes_on, forget, last, make, pull, push, remove, set_, settle, shown_on,
    state_of, told,
)

# On device 1 three changes of date 0 are answered as not done: fields 0 and 1 set, then the date taken out.
CLASHES = SHARED_DATE + (
    set_(0, 0, 0, 5), set_(0, 0, 1, 6), push(0), push(0),
    set_(1, 0, 0, 7), set_(1, 0, 1, 8), remove(1, 0), push(1), push(1), push(1))
FIELD_0, FIELD_1, TAKEN_OUT = [1, 0, 0, 0, 7], [2, 0, 0, 1, 8], [3, 1, 0, 0, 0]

# Device 0 took date 0 out meanwhile, and device 1 knows of it.
DATE_GONE = SHARED_DATE + (remove(0, 0), push(0), set_(1, 0, 0, 7), push(1), pull(1))

# One clash on device 0, where two changes were made.
CLASH_ON_0 = SHARED_DATE + (set_(1, 0, 0, 5), push(1), set_(0, 0, 0, 6), push(0))


class TestLetGo(unittest.TestCase):
    def test_answers_0_and_those_behind_move_up(self):
        self.assertEqual(clashes_on(1, *CLASHES), [FIELD_0, FIELD_1, TAKEN_OUT])
        self.assertEqual(told(*CLASHES, settle(1, 0, 0), settle(1, 1, 0))[-2:], [[0], [0]])
        self.assertEqual(clashes_on(1, *CLASHES, settle(1, 0, 0)), [FIELD_1, TAKEN_OUT])
        self.assertEqual(clashes_on(1, *CLASHES, settle(1, 0, 0), settle(1, 1, 0)), [FIELD_1])

    def test_any_of_them(self):
        self.assertEqual(clashes_on(1, *CLASHES, settle(1, 1, 0)), [FIELD_0, TAKEN_OUT])
        self.assertEqual(clashes_on(1, *CLASHES, settle(1, 2, 0)), [FIELD_0, FIELD_1])
        self.assertEqual(clashes_on(1, *CLASHES, *[settle(1, 0, 0)] * 3), [])

    def test_nothing_is_made(self):
        calls = CLASHES + (settle(1, 0, 0),)
        self.assertEqual(state_of(1, *calls), [1, 3, 3, 0, 0, 2])
        self.assertEqual(shown_on(1, *calls), [[0, 10, 20, 30]])
        self.assertEqual(at_house(*calls), [[0, 5, 6, 30]])
        self.assertEqual(last(*calls, push(1)), [-6])

    def test_where_the_date_is_gone(self):
        self.assertEqual(last(*DATE_GONE, settle(1, 0, 0)), [0])
        self.assertEqual(clashes_on(1, *DATE_GONE, settle(1, 0, 0)), [])

    def test_where_20_wait(self):
        self.assertEqual(last(*CLASH_ON_0, *[make(0)] * 20, settle(0, 0, 0)), [0])

    def test_where_99_were_made(self):
        self.assertEqual(last(*CLASH_ON_0, *[make(0), push(0)] * 97, settle(0, 0, 0)), [0])

    def test_the_clashes_of_another_device_stay(self):
        calls = CLASHES + (set_(2, 0, 0, 9), push(2))
        self.assertEqual(clashes_on(2, *calls, settle(1, 0, 0)), [[1, 0, 0, 0, 9]])
        self.assertEqual(clashes_on(1, *calls, settle(2, 0, 0)), [FIELD_0, FIELD_1, TAKEN_OUT])


class TestOnceMore(unittest.TestCase):
    def test_answers_the_new_count_and_the_clash_is_gone(self):
        self.assertEqual(told(*CLASHES, settle(1, 1, 1), settle(1, 0, 1))[-2:], [[4], [5]])
        self.assertEqual(clashes_on(1, *CLASHES, settle(1, 1, 1)), [FIELD_0, TAKEN_OUT])
        self.assertEqual(clashes_on(1, *CLASHES, settle(1, 1, 1), settle(1, 0, 1)), [TAKEN_OUT])

    def test_the_same_field_is_set_to_the_same(self):
        calls = CLASHES + (settle(1, 1, 1),)
        self.assertEqual(shown_on(1, *calls), [[0, 10, 8, 30]])
        self.assertEqual(shown_on(1, *calls, pull(1)), [[0, 5, 8, 30]])

    def test_the_same_date_is_taken_out(self):
        calls = CLASHES + (pull(1), settle(1, 2, 1))
        self.assertEqual(last(*calls), [4])
        self.assertEqual(shown_on(1, *calls), [])
        self.assertEqual(last(*calls, push(1)), [1])
        self.assertEqual(at_house(*calls, push(1)), [])

    def test_done_if_pulled_ahead(self):
        calls = CLASHES + (pull(1), settle(1, 0, 1), push(1))
        self.assertEqual(told(*calls)[-3:], [[1, 2], [4], [1]])
        self.assertEqual(at_house(*calls), [[0, 7, 6, 30]])
        self.assertEqual(clashes_on(1, *calls), [FIELD_1, TAKEN_OUT])

    def test_a_clash_again_if_not_pulled(self):
        calls = CLASHES + (settle(1, 0, 1), push(1))
        self.assertEqual(last(*calls), [2])
        self.assertEqual(clashes_on(1, *calls), [FIELD_1, TAKEN_OUT, [4, 0, 0, 0, 7]])

    def test_a_clash_again_if_pulled_behind_it(self):
        self.assertEqual(last(*CLASHES, settle(1, 0, 1), pull(1), push(1)), [2])

    def test_a_clash_again_if_changed_once_more_meanwhile(self):
        calls = CLASHES + (pull(1), settle(1, 0, 1), set_(0, 0, 0, 9), push(0), push(1))
        self.assertEqual(last(*calls), [2])

    def test_it_waits_as_the_last(self):
        calls = CLASHES + (pull(1), set_(1, 0, 0, 9), settle(1, 0, 1))
        self.assertEqual(shown_on(1, *calls), [[0, 7, 6, 30]])
        self.assertEqual(state_of(1, *calls), [3, 3, 5, 2, 0, 2])
        self.assertEqual(at_house(*calls, push(1)), [[0, 9, 6, 30]])
        self.assertEqual(at_house(*calls, push(1), push(1)), [[0, 7, 6, 30]])

    def test_nothing_comes_to_the_house_yet(self):
        self.assertEqual(at_house(*CLASHES, pull(1), settle(1, 0, 1)), [[0, 5, 6, 30]])

    def test_below_the_floor(self):
        self.assertEqual(told(*CLASHES, forget(3), settle(1, 0, 1), push(1))[-2:], [[4], [2]])
        self.assertEqual(told(*CLASHES, forget(3), pull(1), settle(1, 0, 1), push(1))[-3:], [[2, 1], [4], [1]])

    def test_a_new_clash_can_be_settled_again(self):
        calls = CLASHES + (settle(1, 0, 1), push(1), pull(1), settle(1, 2, 1), push(1))
        self.assertEqual(told(*calls)[-2:], [[5], [1]])
        self.assertEqual(at_house(*calls), [[0, 7, 6, 30]])


class TestRefused(unittest.TestCase):
    def refused(self, calls, call, answer):
        self.assertEqual(last(*calls, call), [answer])
        self.assertEqual(all_told(*calls, call), all_told(*calls))

    def test_no_device(self):
        self.assertEqual(last(*CLASHES, settle(2, 0, 0)), [-4])
        for device in (3, 9):
            for again in (0, 1, 2):
                self.refused(CLASHES, settle(device, 0, again), -3)

    def test_neither_0_nor_1(self):
        for again in (2, 9):
            self.refused(CLASHES, settle(1, 0, again), -1)
            self.refused(CLASHES, settle(1, 3, again), -1)
            self.refused((), settle(0, 0, again), -1)

    def test_no_such_clash(self):
        for again in (0, 1):
            self.assertGreaterEqual(last(*CLASHES, settle(1, 2, again))[0], 0)
            self.refused(CLASHES, settle(1, 3, again), -4)
            self.refused(CLASHES, settle(1, 99, again), -4)
            self.refused(CLASHES, settle(0, 0, again), -4)

    def test_settled_already(self):
        for again in (0, 1):
            self.refused(CLASHES + (settle(1, 0, again),), settle(1, 2, 0), -4)

    def test_date_is_not_shown(self):
        self.refused(DATE_GONE, settle(1, 0, 1), -2)

    def test_date_is_gone_at_the_house_but_still_shown(self):
        calls = SHARED_DATE + (remove(0, 0), push(0), set_(1, 0, 0, 7), push(1))
        self.assertEqual(told(*calls, settle(1, 0, 1), push(1))[-2:], [[2], [2]])

    def test_date_is_taken_out_by_what_waits_there(self):
        self.refused(CLASHES + (remove(1, 0),), settle(1, 0, 1), -2)
        self.refused(CLASHES + (settle(1, 2, 1),), settle(1, 0, 1), -2)

    def test_20_wait(self):
        self.assertEqual(last(*CLASH_ON_0, *[make(0)] * 19, settle(0, 0, 1)), [22])
        self.refused(CLASH_ON_0 + (make(0),) * 20, settle(0, 0, 1), -5)
        self.assertEqual(last(*CLASH_ON_0, *[make(0)] * 20, push(0), settle(0, 0, 1)), [23])

    def test_it_makes_20_wait(self):
        self.assertEqual(last(*CLASH_ON_0, *[make(0)] * 19, settle(0, 0, 1), make(0)), [-5])

    def test_99_were_made(self):
        # Far more calls than a line has: 99 changes on one device don't fit in 80 calls.
        self.assertEqual(last(*CLASH_ON_0, *[make(0), push(0)] * 96, settle(0, 0, 1)), [99])
        self.refused(CLASH_ON_0 + (make(0), push(0)) * 97, settle(0, 0, 1), -5)

    def test_order(self):
        twenty_wait = (make(1),) * 20
        self.refused(CLASHES + twenty_wait, settle(3, 3, 2), -3)
        self.refused(CLASHES + twenty_wait, settle(1, 3, 2), -1)
        self.refused(DATE_GONE + twenty_wait, settle(1, 0, 2), -1)
        self.refused(CLASHES + twenty_wait, settle(1, 3, 1), -4)
        self.refused(DATE_GONE + twenty_wait, settle(1, 1, 1), -4)
        self.refused(DATE_GONE + twenty_wait, settle(1, 0, 1), -2)


if __name__ == "__main__":
    unittest.main()
