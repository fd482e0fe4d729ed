"""Promise 7: shares parts a whole as the ring is parted, or refuses."""

import unittest
from fractions import Fraction

from asking import BEGINS, GREATEST, asked, click, data, last, look, place, shares


class SharesTest(unittest.TestCase):
    def shared(self, row, whole, expected):
        """What each column is given; whatever the kind, and other rows don't count."""
        n = len(row)
        for kind in range(5):
            self.assertEqual(last(data(n, row), look(kind), shares(whole)), [0] + expected)
            self.assertEqual(last(look(kind), data(n, row, [77] * n), shares(whole)), [0] + expected)

    def test_whole_is_1_to_1000000(self):
        rows = data(2, [1, 3])
        for whole in (0, 1000001, 4294967295):
            self.assertEqual(last(rows, shares(whole)), [-1])
        self.assertEqual(last(rows, shares(1)), [0, 0, 1])
        self.assertEqual(last(rows, shares(1000000)), [0, 250000, 750000])

    def test_no_rows(self):
        for kind in range(5):
            self.assertEqual(last(look(kind), shares(1)), [-4])
            self.assertEqual(last(look(kind), shares(1000000)), [-4])
            self.assertEqual(last(data(1, [5]), BEGINS, look(kind), shares(10)), [-4])
            self.assertEqual(last(data(2, [5]), look(kind), shares(10)), [-4])

    def test_a_total_of_0(self):
        for kind in range(5):
            self.assertEqual(last(data(1, [0]), look(kind), shares(10)), [-3])
            self.assertEqual(last(data(3, [0, None, -5], [1, 2, 3]), look(kind), shares(10)), [-3])
            self.assertEqual(last(data(2, [None, None]), look(kind), shares(1000000)), [-3])

    def test_the_first_refusal_is_answered(self):
        for whole in (0, 1000001):
            self.assertEqual(last(shares(whole)), [-1])
            self.assertEqual(last(data(2, [0, -1]), shares(whole)), [-1])
            self.assertEqual(last(data(2, [0, -1]), BEGINS, shares(whole)), [-1])
        self.assertEqual(last(data(2, [0, -1]), BEGINS, shares(5)), [-4])

    def test_shares_that_part_evenly(self):
        self.shared([1, 2, 3, 4], 100, [10, 20, 30, 40])
        self.shared([5], 7, [7])
        self.shared([30, 10, 60], 10, [3, 1, 6])

    def test_what_is_lacking_goes_to_those_that_lost_most(self):
        self.shared([3, 3, 1], 10, [4, 4, 2])
        self.shared([1, 3, 3], 10, [2, 4, 4])
        self.shared([4, 5, 6, 1], 9, [2, 3, 3, 1])
        self.shared([1, 2, 4], 10, [1, 3, 6])
        self.shared([9, 1], 1, [1, 0])
        self.shared([1, 9], 1, [0, 1])

    def test_of_several_that_lost_as_much_the_first(self):
        self.shared([1, 1, 1], 100, [34, 33, 33])
        self.shared([1, 1, 1], 101, [34, 34, 33])
        self.shared([1, 1, 1, 1], 2, [1, 1, 0, 0])
        self.shared([3, 5, 3, 5, 3], 1, [0, 1, 0, 0, 0])
        self.shared([2, 1, 2, 1], 9, [3, 2, 3, 1])
        self.shared([1, 1], 1, [1, 0])

    def test_numbers_below_0_and_not_there_are_parts_of_0(self):
        self.shared([None, 1, -1, 1, 0, 1], 100, [0, 34, 0, 33, 0, 33])
        self.shared([-1000, 3, None], 7, [0, 7, 0])

    def test_many_columns(self):
        self.shared([1] * 512, 1000000, [1954] * 64 + [1953] * 448)
        self.shared([1] * 512, 3, [1] * 3 + [0] * 509)

    def test_very_large_numbers(self):
        self.shared([GREATEST, GREATEST, GREATEST], 1000000, [333334, 333333, 333333])
        self.shared([GREATEST, 1], 1000000, [1000000, 0])
        self.shared([GREATEST, GREATEST - 1], 1, [1, 0])
        self.shared([GREATEST - 1, GREATEST], 1, [0, 1])

    def test_shares_are_the_whole_together_and_near_their_parts(self):
        row = [17, None, 3, 99, -4, 1, 0, 42, 58, 7, 23, 5]
        total = 255
        parts = [max(number or 0, 0) for number in row]
        for whole in list(range(1, 60)) + [99, 100, 1000, 65537, 999999]:
            told = last(data(12, row), shares(whole))
            self.assertEqual(told[0], 0)
            self.assertEqual(sum(told[1:]), whole)
            lost = [Fraction(part * whole, total) - share for part, share in zip(parts, told[1:])]
            self.assertLess(max(abs(number) for number in lost), 1)
            # Nobody that was given one had lost less than one that was given none.
            given = [number + 1 for number in lost if number < 0]
            self.assertLessEqual(max(number for number in lost if number >= 0), min(given, default=1))

    def test_shares_changes_nothing(self):
        rows = data(3, [1, None, 2], [4, 5, 6])
        calls = [place(0, 2), click(15, 8), shares(10)]
        told = asked(rows, look(4), *calls, shares(0), *calls)
        self.assertEqual(told[6:], told[2:5])
        self.assertEqual(told[4:6], [[0, 3, 0, 7], [-1]])


if __name__ == "__main__":
    unittest.main()
