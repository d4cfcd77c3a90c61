"""The interface: one list in, one list out, and nothing kept."""

import unittest

from copieskept.house import answers

LINE = [0, 0, 1, 2, 3, 3, 0, 2, 3, 0, 0, 4, 1, 0, 1, 1, 0, 0, 7, 2, 2, 5, 5, 1, 4, 2, 0, 3, 1, 0, 0, 3, 1, 1, 1]
ANSWERS = [1, 1001, 1, 0, 1, 1, 2, 1, 1, 1, 1, 1, -4, 1, 1, 2, 2, 1, 1, 1, 1, -3]


class TestAnswers(unittest.TestCase):
    def test_each_answer_has_its_size_ahead_of_it(self):
        self.assertEqual(answers(LINE), ANSWERS)

    def test_a_refusal_is_one_number(self):
        self.assertEqual(answers([3, 0, 0]), [1, -6])

    def test_house_has_no_numbers_at_all(self):
        self.assertEqual(answers([7, 7, 10, 0, 7]), [1, 0, 1, 0, 6, 0, 0, 0, 0, 0, 0, 1, 0])

    def test_rows_of_an_answer_have_no_counts_of_their_own(self):
        self.assertEqual(answers([0, 0, 1, 2, 3, 0, 0, 4, 5, 6, 6, 0]),
                         [1, 1001, 1, 1002, 9, 2, 1001, 1, 2, 3, 1002, 4, 5, 6])

    def test_the_list_handed_in_is_as_it_was(self):
        line = list(LINE)
        answers(line)
        self.assertEqual(line, LINE)

    def test_a_second_time_gives_the_same(self):
        line = list(LINE)
        first = answers(line)
        self.assertEqual(answers(line), first)

    def test_nothing_is_kept_from_another_line(self):
        answers([0, 0, 1, 2, 3, 3, 0, 0, 5, 1])
        self.assertEqual(answers([4, 1, 0, 5, 1, 0, 0, 1, 2, 3]), [2, 1, 0, 1, -1, 1, 1001])

    def test_given_back_are_plain_whole_numbers_in_a_list(self):
        told = answers(LINE)
        self.assertIs(type(told), list)
        self.assertEqual({type(number) for number in told}, {int})

    def test_80_calls(self):
        self.assertEqual(answers([0, 0, 1, 2, 3, 3, 0, 0] * 40)[-4:], [1, 1040, 1, 1])


if __name__ == "__main__":
    unittest.main()
