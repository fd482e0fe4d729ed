"""The whole program: calls of all seven kinds behind one another on one object."""

import unittest

from asking import BEGINS, asked, axis, click, data, look, place, shares
from dotcharts.desk import answers

ROWS = [[10, None, -5, 20], [0, 5, 5, 10], [None, 7, -20, 0]]
STORY = [
    # Nothing is there yet; what's wrong in itself is told ahead of that.
    (axis(2), [-1]), (axis(1), [-4]), (place(0, 0), [-4]), (click(0, 0), [-4]), (shares(0), [-1]), (shares(5), [-4]),
    # Bars side by side, at a line's beginning; upright from -20 to 20 by steps of 5.
    (data(4, *ROWS), [0]),
    (axis(0), [8, -20, 5, 0, 2, 4, 6, 8, 9, 11, 13, 15]), (axis(1), [-3]),
    (place(0, 0), [0, 0, 1, 8, 11]), (place(2, 2), [0, 10, 11, 0, 8]), (place(0, 1), [-2]), (place(3, 0), [-2]),
    (click(0, 8), [1, 0, 0]), (click(10, 7), [1, 2, 2]), (click(10, 8), [0]), (click(3, 8), [0]),
    (shares(100), [0, 33, 0, 0, 67]),
    # Refused: all is as it was.
    (data(4, [1, 2, 3]), [-1]), (data(0, []), [-1]), (look(5), [-1]), (look(4, 16, 15), [-1]),
    (place(0, 0), [0, 0, 1, 8, 11]), (click(10, 7), [1, 2, 2]), (shares(100), [0, 33, 0, 0, 67]),
    # Bars on one another; upright from -30 to 30.
    (look(1, 32, 61, 6), [0]),
    (axis(0), [6, -30, 10, 0, 10, 20, 30, 40, 50, 60]),
    (place(1, 3), [0, 25, 31, 50, 60]), (place(2, 2), [0, 17, 23, 5, 25]), (place(2, 0), [-2]),
    (click(25, 59), [1, 1, 3]), (click(25, 60), [0]), (click(22, 5), [1, 2, 2]),
    # Lines.
    (look(2, 32, 41, 8), [0]),
    (place(0, 3), [0, 28, 40]), (place(2, 2), [0, 20, 0]), (click(20, 7), [1, 2, 2]), (click(20, 8), [1, 0, 2]),
    (click(12, 17), [1, 1, 1]), (click(12, 16), [0]),
    # Points: along from -5 to 20, upright from -20 to 10.
    (look(3, 26, 31, 6), [0]),
    (axis(0), [6, -20, 5, 0, 5, 10, 15, 20, 25, 30]), (axis(1), [5, -5, 5, 0, 5, 10, 15, 20, 25]),
    (place(0, 0), [-2]), (place(1, 1), [-2]), (place(1, 0), [0, 15, 20]), (place(2, 3), [0, 25, 20]),
    (click(15, 20), [1, 1, 0]), (click(20, 20), [1, 1, 0]), (click(21, 20), [1, 2, 3]), (click(8, 8), [0]),
    # A ring of 10 and 20.
    (look(4), [0]),
    (axis(0), [-3]), (place(0, 2), [0, 10, 10, 30]), (place(1, 0), [-2]),
    (click(15, 15), [1, 0, 0]), (click(0, 0), [1, 0, 3]), (click(8, 8), [0]), (shares(1), [0, 0, 0, 0, 1]),
    # Other rows, then none.
    (data(2, [0, None]), [0]), (click(15, 15), [0]), (place(0, 1), [0, 0, 0, 0]), (shares(5), [-3]),
    (BEGINS, [0]), (click(15, 15), [-4]), (shares(5), [-4]), (place(0, 0), [-4]), (axis(0), [-4]),
    (data(1, [7]), [0]), (place(0, 0), [0, 2, 14, 0, 15]), (shares(3), [0, 3])]
CALLS = [call for call, answer in STORY]
ANSWERS = [answer for call, answer in STORY]


class WholeTest(unittest.TestCase):
    def test_all_calls_behind_one_another(self):
        told = asked(*CALLS)
        for at, (call, answer) in enumerate(STORY):
            self.assertEqual(told[at], answer, (at, call))

    def test_a_second_time_is_as_the_first(self):
        self.assertEqual(asked(*CALLS), ANSWERS)
        self.assertEqual(asked(*CALLS), ANSWERS)

    def test_cut_anywhere_the_answers_so_far_are_the_same(self):
        for until in range(1, len(CALLS)):
            self.assertEqual(asked(*CALLS[:until]), ANSWERS[:until])

    def test_behind_begins_all_is_as_the_first_time(self):
        self.assertEqual(asked(*CALLS, BEGINS, *CALLS), ANSWERS + [[0]] + ANSWERS)

    def test_refusals_and_questions_change_nothing(self):
        # Each question and each refusal is asked three times over, with all the others between.
        told = []
        for at, (call, answer) in enumerate(STORY):
            if answer != [0] or call[0] == 5:
                self.assertEqual(asked(*CALLS[:at], call, call, call, *CALLS[at:]),
                                 ANSWERS[:at] + [answer] * 3 + ANSWERS[at:])
                told.append(call[0])
        self.assertEqual(set(told), {1, 2, 3, 4, 5, 6})

    def test_what_is_handed_in_stays_as_it_is(self):
        calls = [number for call in CALLS for number in call]
        before = list(calls)
        answers(calls)
        self.assertEqual(calls, before)

    def test_answers_are_plain_whole_numbers(self):
        told = answers([number for call in CALLS for number in call])
        self.assertIs(type(told), list)
        self.assertEqual({type(number) for number in told}, {int})

    def test_400_calls_on_as_many_numbers_as_fit(self):
        rows = [[(i * 31 + j * 17) % 101 - 50 for j in range(180)] for i in range(16)]
        calls = [click(j % 16, j % 13) for j in range(398)]
        for kind in range(5):
            told = asked(data(180, *rows), look(kind), *calls)
            self.assertEqual(len(told), 400)
            self.assertEqual(told[:2], [[0], [0]])
            self.assertTrue(all(answer == [0] or len(answer) == 3 for answer in told[2:]))


if __name__ == "__main__":
    unittest.main()
