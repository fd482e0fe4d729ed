"""The interface: how calls are handed in and answers given back."""

import unittest

from asking import BEGINS, axis, data, look
from dotcharts.desk import answers


class AnswersTest(unittest.TestCase):
    def test_each_answer_has_its_length_before_it(self):
        calls = BEGINS + data(1, [3]) + look(9) + look(2, steps=2) + axis(2) + axis(0)
        expected = [1, 0, 1, 0, 1, -1, 1, 0, 1, -1, 6, 2, 0, 10 ** 12, 0, 8, 15]
        self.assertEqual(answers(calls), expected)

    def test_answers_are_a_list_of_plain_whole_numbers(self):
        told = answers(data(2, [1, None]) + look(3) + axis(0) + axis(1))
        self.assertIs(type(told), list)
        self.assertEqual({type(number) for number in told}, {int})

    def test_what_is_handed_in_stays_as_it_is(self):
        calls = data(2, [1, None], [-5, 7]) + look(1) + axis(0) + data(3, [1])
        before = list(calls)
        answers(calls)
        self.assertEqual(calls, before)

    def test_nothing_is_kept_from_one_time_to_the_next(self):
        kept = answers(data(1, [1]) + look(2, 20, 30, 4))
        self.assertEqual(kept, [1, 0, 1, 0])
        self.assertEqual(answers(axis(0)), [1, -4])
        fresh = answers(data(1, [10 ** 12]) + axis(0))
        self.assertEqual(fresh[2:6], [14, 10, 0, 10 ** 11])
        self.assertEqual(fresh[-1], 15)

    def test_400_calls_in_one_list(self):
        calls = data(1, [1]) + axis(0) * 399
        told = answers(calls)
        self.assertEqual(told[:2], [1, 0])
        self.assertEqual(told[2:], answers(data(1, [1]) + axis(0))[2:] * 399)

    def test_given_back_lists_are_not_bound_to_one_another(self):
        first = answers(data(1, [1]) + axis(0))
        kept = list(first)
        first.append(77)
        self.assertEqual(answers(data(1, [1]) + axis(0)), kept)


if __name__ == "__main__":
    unittest.main()
