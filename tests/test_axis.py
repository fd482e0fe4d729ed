"""Promise 4: axis tells steps, start, step and dots, or refuses."""

import unittest
from fractions import Fraction
from math import ceil, floor

from asking import GREATEST, asked, axis, data, last, look

ONE = 10 ** 12
GOOD_STEPS = [factor * 10 ** power for power in range(56) for factor in (1, 2, 5)]


def expected(low, high, steps, dots):
    """The axis worked out in fractions, straight from the document's words."""
    if high == low:
        high = low + ONE
    for step in GOOD_STEPS:
        count = ceil(Fraction(high, step)) - floor(Fraction(low, step))
        if count <= steps:
            break
    start = step * floor(Fraction(low, step))
    told = [count, start, step]
    for passed in range(count + 1):
        told.append(floor(Fraction(passed * (dots - 1), count) + Fraction(1, 2)))
    return told


class RefusalsTest(unittest.TestCase):
    def test_which_is_neither_0_nor_1(self):
        for which in (2, 3, 4294967295):
            self.assertEqual(last(data(1, [5]), axis(which)), [-1])
            self.assertEqual(last(data(1, [5]), look(3), axis(which)), [-1])

    def test_no_rows(self):
        self.assertEqual(last(axis(0)), [-4])
        self.assertEqual(last(look(3), axis(1)), [-4])

    def test_a_ring_has_no_axis(self):
        self.assertEqual(last(data(1, [5]), look(4), axis(0)), [-3])
        self.assertEqual(last(data(1, [5]), look(4), axis(1)), [-3])

    def test_along_is_there_for_points_alone(self):
        for kind in (0, 1, 2, 4):
            self.assertEqual(last(data(1, [5]), look(kind), axis(1)), [-3])
        self.assertEqual(last(data(1, [5]), look(3), axis(1))[0], 6)

    def test_upright_is_there_for_all_but_the_ring(self):
        for kind in (0, 1, 2, 3):
            self.assertGreater(last(data(1, [5]), look(kind), axis(0))[0], 0)

    def test_the_first_refusal_is_answered(self):
        self.assertEqual(last(axis(2)), [-1])
        self.assertEqual(last(look(4), axis(2)), [-1])
        self.assertEqual(last(data(1, [5]), look(4), axis(2)), [-1])
        self.assertEqual(last(look(4), axis(0)), [-4])
        self.assertEqual(last(look(4), axis(1)), [-4])
        self.assertEqual(last(axis(1)), [-4])

    def test_a_refusal_changes_nothing(self):
        rows = data(1, [5])
        fine = last(rows, axis(0))
        self.assertEqual(asked(rows, axis(2), axis(1), axis(0))[1:], [[-1], [-3], fine])


class NumbersTest(unittest.TestCase):
    """Which numbers each kind's axis shows."""

    def shows(self, kind, rows, low, high, which=0):
        n = len(rows[0])
        for steps in (2, 3, 10, 64):
            for high_dots, wide_dots in ((16, 33), (100, 17)):
                told = last(data(n, *rows), look(kind, wide_dots, high_dots, steps), axis(which))
                dots = wide_dots if which else high_dots
                self.assertEqual(told, expected(low, high, steps, dots))

    def test_side_by_side_shows_all_numbers_and_0(self):
        self.shows(0, [[5, 70], [30, 12]], 0, 70)
        self.shows(0, [[-5, -70], [-30, -12]], -70, 0)
        self.shows(0, [[-5, 70], [30, -12]], -12, 70)
        self.shows(0, [[None, 70], [30, None]], 0, 70)
        self.shows(0, [[None, None]], 0, 0)
        self.shows(0, [[0, 0]], 0, 0)

    def test_on_one_another_shows_column_sums_and_0(self):
        self.shows(1, [[5, 70], [30, 12]], 0, 82)
        self.shows(1, [[-5, -70], [-30, -12]], -82, 0)
        self.shows(1, [[40, -3], [-25, 30], [2, -9]], -25, 42)
        self.shows(1, [[40, None], [None, -30], [None, None]], -30, 40)
        self.shows(1, [[None, None], [None, None]], 0, 0)

    def test_on_one_another_parts_even_the_smallest_by_their_sign(self):
        self.shows(1, [[1], [-1], [0]], -1, 1)
        self.shows(1, [[5], [-1]], -1, 5)
        self.shows(1, [[-5], [1]], -5, 1)
        self.shows(1, [[-1], [-1], [-1]], -3, 0)

    def test_on_one_another_is_not_by_rows(self):
        self.shows(1, [[50, 60, 70]], 0, 70)
        self.shows(1, [[50], [60], [70]], 0, 180)

    def test_lines_show_all_numbers_without_0(self):
        self.shows(2, [[51, 70], [30, 62]], 30, 70)
        self.shows(2, [[-51, -70], [-30, -62]], -70, -30)
        self.shows(2, [[None, 70], [60, None]], 60, 70)

    def test_points_show_all_rows_but_the_first(self):
        self.shows(3, [[9000, -9000], [51, 70], [30, None]], 30, 70)

    def test_along_shows_the_first_row(self):
        self.shows(3, [[51, 70, None], [9000, -9000, 1]], 51, 70, which=1)
        self.shows(3, [[51, 70]], 51, 70, which=1)

    def test_no_number_there_at_all(self):
        self.shows(2, [[None, None]], 0, 0)
        self.shows(3, [[5, 70]], 0, 0)
        self.shows(3, [[5, 70], [None, None]], 0, 0)
        self.shows(3, [[None, None], [5, 70]], 0, 0, which=1)


class StepsTest(unittest.TestCase):
    """The least good step, where the axis begins, and its dots."""

    def line(self, numbers, steps, high=16):
        return last(data(len(numbers), numbers), look(2, 16, high, steps), axis(0))

    def test_one_number_alone_has_1_above_it(self):
        self.assertEqual(self.line([0], 2), [2, 0, 5 * ONE // 10, 0, 8, 15])
        self.assertEqual(self.line([7 * ONE, 7 * ONE], 2), [2, 7 * ONE, 5 * ONE // 10, 0, 8, 15])
        self.assertEqual(self.line([-ONE], 2), [2, -ONE, 5 * ONE // 10, 0, 8, 15])
        self.assertEqual(self.line([3], 2), [2, 0, ONE, 0, 8, 15])
        self.assertEqual(self.line([-3], 2), [2, -ONE, ONE, 0, 8, 15])

    def test_the_step_is_the_least_that_fits(self):
        self.assertEqual(self.line([0, 10], 10)[:3], [10, 0, 1])
        self.assertEqual(self.line([0, 11], 10)[:3], [6, 0, 2])
        self.assertEqual(self.line([0, 20], 10)[:3], [10, 0, 2])
        self.assertEqual(self.line([0, 21], 10)[:3], [5, 0, 5])
        self.assertEqual(self.line([0, 50], 10)[:3], [10, 0, 5])
        self.assertEqual(self.line([0, 51], 10)[:3], [6, 0, 10])

    def test_where_it_lies_counts_not_its_length_alone(self):
        self.assertEqual(self.line([99, 103], 2)[:3], [2, 95, 5])
        self.assertEqual(self.line([100, 104], 2)[:3], [2, 100, 2])
        self.assertEqual(self.line([101, 105], 2)[:3], [1, 100, 5])

    def test_fewer_steps_than_at_most(self):
        self.assertEqual(self.line([4, 5], 64), [1, 4, 1, 0, 15])

    def test_below_0_quotients_are_rounded_down(self):
        self.assertEqual(self.line([-7, -3], 2), [2, -10, 5, 0, 8, 15])
        self.assertEqual(self.line([-11, -1], 2), [2, -20, 10, 0, 8, 15])
        self.assertEqual(self.line([-1, 10], 2), [2, -10, 10, 0, 8, 15])
        self.assertEqual(self.line([-10, -1], 10), [9, -10, 1, 0, 2, 3, 5, 7, 8, 10, 12, 13, 15])

    def test_very_large_numbers(self):
        greatest = GREATEST + 1
        self.assertEqual(self.line([GREATEST, -GREATEST], 2), [2, -greatest, greatest, 0, 8, 15])
        self.assertEqual(self.line([GREATEST], 2), [2, GREATEST + 1 - ONE, ONE, 0, 8, 15])
        self.assertEqual(self.line([GREATEST - 1, GREATEST], 2), [1, GREATEST - 1, 1, 0, 15])

    def test_very_large_sums(self):
        rows = [[GREATEST, -GREATEST]] * 16
        told = last(data(2, *rows), look(1, steps=64), axis(0))
        self.assertEqual(told[:3], [64, -16 * 10 ** 36, 5 * 10 ** 35])
        told = last(data(2, *rows), look(1, steps=2), axis(0))
        self.assertEqual(told, [2, -2 * 10 ** 37, 2 * 10 ** 37, 0, 8, 15])

    def test_dots_are_the_nearest_and_the_upper_of_two(self):
        self.assertEqual(self.line([0, 3], 3)[3:], [0, 5, 10, 15])
        self.assertEqual(self.line([0, 4], 4)[3:], [0, 4, 8, 11, 15])
        self.assertEqual(self.line([0, 2], 2, high=4096)[3:], [0, 2048, 4095])
        self.assertEqual(self.line([0, 2], 2, high=17)[3:], [0, 8, 16])

    def test_more_steps_than_dots(self):
        told = self.line([0, 64], 64)
        self.assertEqual(told[:3], [64, 0, 1])
        self.assertEqual(told[3:], [(2 * passed * 15 + 64) // 128 for passed in range(65)])

    def test_many_axes_against_fractions(self):
        lows = (-GREATEST, -10 ** 20 - 7, -ONE, -1234, -100, -99, -1, 0, 1, 9, 123, 10 ** 15 + 1)
        spans = (0, 1, 2, 3, 7, 10, 11, 99, 1000, 51234, ONE, 10 ** 24 + 1)
        for low in lows:
            for span in spans:
                for steps in (2, 3, 5, 10, 63, 64):
                    told = self.line([low + span, low], steps, 37)
                    self.assertEqual(told, expected(low, low + span, steps, 37))


if __name__ == "__main__":
    unittest.main()
