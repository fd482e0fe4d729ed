"""Promise 1: begins makes all as at a line's beginning."""

import unittest

from asking import BEGINS, asked, axis, click, data, last, look, place, shares


class BeginsTest(unittest.TestCase):
    def test_it_answers_0_first_and_again(self):
        self.assertEqual(asked(BEGINS, BEGINS), [[0], [0]])

    def test_behind_data_there_are_no_rows(self):
        self.assertEqual(asked(data(1, [5]), BEGINS, axis(0)), [[0], [0], [-4]])

    def test_behind_look_the_look_is_the_first_one(self):
        at_first = last(data(2, [5, -3], [7, 9]), axis(0))
        again = last(look(1, 40, 50, 3), BEGINS, data(2, [5, -3], [7, 9]), axis(0))
        self.assertEqual(again, at_first)

    def test_a_ring_is_forgotten(self):
        self.assertEqual(last(look(4), data(1, [5]), axis(0)), [-3])
        self.assertEqual(last(look(4), BEGINS, data(1, [5]), axis(0))[0], 5)

    def test_the_look_at_the_beginning(self):
        # 16 high and 10 steps at most; along is refused, so it's not of points.
        row = data(1, [10 ** 12])
        dots = [0, 2, 3, 5, 6, 8, 9, 11, 12, 14, 15]
        self.assertEqual(last(row, axis(0)), [10, 0, 10 ** 11] + dots)
        self.assertEqual(last(row, axis(1)), [-3])
        self.assertEqual(last(look(3, 40, 50, 3), BEGINS, row, axis(0)), [10, 0, 10 ** 11] + dots)
        self.assertEqual(last(look(3, 40, 50, 3), BEGINS, row, axis(1)), [-3])

    def test_bars_at_the_beginning(self):
        # Side by side and 16 wide: the inner 12 dots, from 2 on, are parted between the rows.
        rows = data(1, [10 ** 12], [10 ** 11])
        calls = [place(0, 0), place(1, 0), click(2, 14), click(13, 1), click(14, 1)]
        told = [[0, 2, 8, 0, 15], [0, 8, 14, 0, 2], [1, 0, 0], [1, 1, 0], [0]]
        self.assertEqual(asked(rows, *calls)[1:], told)
        for kind in range(5):
            self.assertEqual(asked(look(kind, 40, 50, 3), data(1, [5]), BEGINS, rows, *calls)[4:], told)

    def test_behind_data_there_is_nothing_left_to_ask_of(self):
        for kind in range(5):
            told = asked(data(1, [5]), look(kind), BEGINS, look(kind), place(0, 0), click(5, 5), shares(10))
            self.assertEqual(told[4:], [[-4], [-4], [-4]])

    def test_the_kind_at_the_beginning(self):
        # 0 is on the axis, so the kind isn't of lines; no sum is, so it's not of bars on one another.
        rows = data(1, [4], [6])
        self.assertEqual(last(rows, axis(0))[:3], [6, 0, 1])
        self.assertEqual(last(look(1), BEGINS, rows, axis(0))[:3], [6, 0, 1])

    def test_10_steps_at_the_beginning(self):
        for before in ([], [look(0, steps=64), BEGINS], [look(0, steps=2), BEGINS]):
            self.assertEqual(last(*before, data(1, [10]), axis(0))[:3], [10, 0, 1])
            self.assertEqual(last(*before, data(1, [11]), axis(0))[:3], [6, 0, 2])

    def test_a_look_behind_begins_counts(self):
        told = last(look(3, 99, 99, 2), BEGINS, look(3), data(1, [10 ** 12]), axis(1))
        self.assertEqual((told[0], told[-1]), (10, 15))


if __name__ == "__main__":
    unittest.main()
