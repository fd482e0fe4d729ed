"""Promise 2: data takes rows or refuses them."""

import unittest

from asking import GREATEST, asked, axis, data, last, look

KEPT = data(2, [3, 9], [-4, 2])


class DataTest(unittest.TestCase):
    def taken(self, call):
        """The rows are taken, and the axis is not that of the rows before."""
        self.assertEqual(last(call), [0])
        self.assertEqual(last(KEPT, call), [0])
        self.assertEqual(last(KEPT, call, axis(0)), last(call, axis(0)))

    def refused(self, call):
        """The rows are refused, and those before, or none, are there as before."""
        self.assertEqual(asked(call, axis(0)), [[-1], [-4]])
        for kind in range(4):
            kept = last(KEPT, look(kind), axis(0))
            self.assertEqual(asked(KEPT, call, look(kind), axis(0)), [[0], [-1], [0], kept])

    def test_ordinary_rows(self):
        self.taken(data(3, [1, 2, 3]))
        self.taken(data(3, [1, -2, 3], [4, 5, -6]))

    def test_rows_replace_all_rows_before(self):
        told = last(data(2, [900, 900], [-900, 0]), data(2, [1, 2]), look(2, steps=2), axis(0))
        self.assertEqual(told, [1, 1, 1, 0, 15])

    def test_how_many_numbers_a_row_has(self):
        self.refused(data(0, []))
        self.taken(data(1, [7]))
        self.taken(data(512, [7] * 512))
        self.refused(data(513, [7] * 513))
        self.refused(data(4294967295, [7]))

    def test_a_bad_n_with_no_numbers_that_are_there(self):
        self.refused(data(0, [], []))
        self.refused(data(513, [None] * 513))

    def test_how_many_rows(self):
        self.refused(data(1))
        self.refused(data(0))
        self.taken(data(1, [8]))
        self.taken(data(1, *[[8]] * 16))
        self.refused(data(1, *[[8]] * 17))
        self.refused(data(1, *[[8]] * 40))

    def test_a_row_that_is_not_as_long(self):
        self.refused(data(2, [1]))
        self.refused(data(2, [1, 2, 3]))
        self.refused(data(2, []))
        self.refused(data(2, [1, 2], [1]))
        self.refused(data(2, [1, 2, 3], [1, 2]))
        self.refused(data(1, [1, 2], [1, 2]))

    def test_length_counts_numbers_that_are_not_there(self):
        self.taken(data(2, [None, None]))
        self.taken(data(3, [1, None, 3], [None, 2, None]))
        self.refused(data(2, [1, None, None]))
        self.refused(data(2, [None]))
        self.refused(data(4, [1, 2]))

    def test_how_large_a_number_is(self):
        self.taken(data(1, [GREATEST]))
        self.refused(data(1, [GREATEST + 1]))
        self.taken(data(1, [-GREATEST]))
        self.refused(data(1, [-GREATEST - 1]))
        self.refused(data(1, [2 ** 127 - 1]))
        self.refused(data(1, [-2 ** 127]))

    def test_one_number_too_large_anywhere(self):
        self.refused(data(2, [1, GREATEST + 1], [1, 2]))
        self.refused(data(2, [1, 2], [None, -GREATEST - 1]))

    def test_a_number_that_is_not_there_is_no_0(self):
        told = last(data(3, [None, 5, 6]), look(2, steps=2), axis(0))
        self.assertEqual(told, [1, 5, 1, 0, 15])

    def test_the_look_stays_with_new_rows(self):
        told = last(look(2, steps=2), data(1, [1]), data(2, [5, 6]), axis(0))
        self.assertEqual(told, [1, 5, 1, 0, 15])


if __name__ == "__main__":
    unittest.main()
