"""Promise 5: place tells where a number lies, or refuses."""

import unittest

from asking import BEGINS, GREATEST, asked, axis, click, data, last, look, place

FAR = 4294967295


def tall(kind, wide=50):
    """A look where numbers from -100 to 100 lie 100 dots further up than they are."""
    return look(kind, wide, 201, 10)


class PlaceTest(unittest.TestCase):
    def places(self, rows, kind_of_look, expected):
        """Of each row and column what is answered; -2 stands for a refusal."""
        n = len(rows[0])
        for i in range(len(rows)):
            for j in range(n):
                answer = [-2] if expected[i][j] == -2 else [0] + expected[i][j]
                self.assertEqual(last(data(n, *rows), kind_of_look, place(i, j)), answer, (i, j))

    def refused(self, rows, kind, *spots):
        for i, j in spots:
            self.assertEqual(last(data(len(rows[0]), *rows), look(kind), place(i, j)), [-2], (kind, i, j))


class RefusalsTest(PlaceTest):
    def test_no_rows(self):
        for kind in range(5):
            for i, j in ((0, 0), (1, 0), (0, FAR)):
                self.assertEqual(last(look(kind), place(i, j)), [-4])
                self.assertEqual(last(data(1, [5]), BEGINS, look(kind), place(i, j)), [-4])
                self.assertEqual(last(data(2, [5]), look(kind), place(i, j)), [-4])

    def test_no_such_row_or_column(self):
        rows = [[1, 2, 3], [4, 5, 6]]
        for kind in range(5):
            self.refused(rows, kind, (2, 0), (1, 3), (0, 3), (FAR, 0), (0, FAR), (FAR, FAR), (3, 1))

    def test_no_such_number(self):
        rows = [[1, None], [None, 2]]
        for kind in (0, 1, 2):
            self.refused(rows, kind, (0, 1), (1, 0))
            self.assertEqual(last(data(2, *rows), look(kind), place(0, 0))[0], 0)
            self.assertEqual(last(data(2, *rows), look(kind), place(1, 1))[0], 0)

    def test_no_such_point(self):
        rows = [[1, None, 3], [4, 5, None], [None, 8, 9]]
        self.refused(rows, 3, (0, 0), (0, 1), (0, 2), (1, 1), (1, 2), (2, 0), (2, 1))
        for i, j in ((1, 0), (2, 2)):
            self.assertEqual(last(data(3, *rows), look(3), place(i, j))[0], 0)
        self.refused([[1]], 3, (0, 0))

    def test_no_such_part(self):
        rows = [[1, None], [3, 4]]
        self.refused(rows, 4, (1, 0), (1, 1), (0, 2), (2, 0), (FAR, FAR))
        self.assertEqual(last(data(2, *rows), look(4), place(0, 1)), [0, 1, 1, 1])

    def test_a_refusal_changes_nothing(self):
        rows = data(2, [10, None], [-5, 0])
        for kind in range(5):
            told = asked(rows, look(kind), place(0, 0), place(1, 1), place(2, 0), place(0, 2), place(0, 0), place(1, 1))
            self.assertEqual(told[4:6], [[-2], [-2]])
            self.assertEqual(told[6:], told[2:4])


class SideBySideTest(PlaceTest):
    def test_bars_stand_on_0(self):
        # -6 is where the axis begins and 16 its span: 0 is at dot 38.
        rows = [[10, -5], [None, 0]]
        self.places(rows, look(0, 32, 101, 10), [
            [[2, 8, 38, 100], [18, 24, 6, 38]],
            [-2, [24, 30, 38, 38]]])

    def test_bands_and_rows_that_do_not_part_evenly(self):
        rows = [[100, -100, 7], [1, -1, 0], [50, 60, -70]]
        self.places(rows, tall(0), [
            [[2, 6, 100, 200], [18, 22, 0, 100], [35, 39, 100, 107]],
            [[6, 10, 100, 101], [22, 26, 99, 100], [39, 43, 100, 100]],
            [[10, 14, 100, 150], [26, 31, 100, 160], [43, 48, 30, 100]]])

    def test_bands_of_less_than_4_dots_are_full(self):
        self.places([[100, 100, 100, -100, -100, -100]], tall(0, 16), [[
            [0, 2, 100, 200], [2, 5, 100, 200], [5, 8, 100, 200], [8, 10, 0, 100], [10, 13, 0, 100], [13, 16, 0, 100]]])

    def test_a_row_of_none_takes_its_room(self):
        rows = [[None], [100], [None], [-100]]
        self.places(rows, tall(0, 16), [[-2], [[5, 8, 100, 200]], [-2], [[11, 14, 0, 100]]])

    def test_more_columns_and_rows_than_dots(self):
        rows = data(20, *[[100] * 20] * 16)
        told = asked(rows, look(0, 16, 201), place(0, 0), place(0, 1), place(15, 1), place(14, 1), place(15, 19))[2:]
        self.assertEqual([answer[1:3] for answer in told], [[0, 0], [0, 0], [0, 1], [0, 0], [15, 16]])

    def test_very_large_numbers(self):
        told = asked(data(2, [GREATEST, -GREATEST]), look(0, 16, 201, 2), place(0, 0), place(0, 1))[2:]
        self.assertEqual(told, [[0, 1, 7, 100, 200], [0, 9, 15, 0, 100]])


class StackedTest(PlaceTest):
    def test_bars_stand_on_those_before_of_their_sign(self):
        rows = [[40, -3], [-25, 30], [2, -9], [0, 0], [58, -88]]
        self.places(rows, tall(1, 32), [
            [[2, 14, 100, 140], [18, 30, 97, 100]],
            [[2, 14, 75, 100], [18, 30, 100, 130]],
            [[2, 14, 140, 142], [18, 30, 88, 97]],
            [[2, 14, 142, 142], [18, 30, 130, 130]],
            [[2, 14, 142, 200], [18, 30, 0, 88]]])

    def test_numbers_that_are_not_there_add_nothing(self):
        rows = [[None, 100], [30, None], [None, None], [40, -100], [None, 0]]
        self.places(rows, tall(1, 32), [
            [-2, [18, 30, 100, 200]],
            [[2, 14, 100, 130], -2],
            [-2, -2],
            [[2, 14, 130, 170], [18, 30, 0, 100]],
            [-2, [18, 30, 200, 200]]])

    def test_bands_that_do_not_part_evenly(self):
        self.places([[100, -100, 7]], tall(1), [[[2, 14, 100, 200], [18, 31, 0, 100], [35, 48, 100, 107]]])

    def test_very_large_sums(self):
        rows = data(1, *[[GREATEST]] * 16)
        told = asked(rows, look(1, 16, 161, 16), place(0, 0), place(7, 0), place(15, 0))[2:]
        # 16 numbers need an axis up to 2 10^37 at 16 steps at most.
        self.assertEqual(told, [[0, 2, 14, 0, 10], [0, 2, 14, 70, 80], [0, 2, 14, 150, 160]])


class PointsTest(PlaceTest):
    def test_lines_are_at_the_middle_of_bands(self):
        rows = [[100, -100, 7], [None, 0, -70]]
        self.places(rows, tall(2), [
            [[8, 200], [24, 0], [41, 107]],
            [-2, [24, 100], [41, 30]]])

    def test_lines_of_more_columns_than_dots(self):
        told = asked(data(512, list(range(512))), look(2, 16, 16, 10), place(0, 0), place(0, 31), place(0, 32),
                     place(0, 511))[2:]
        self.assertEqual([answer[1] for answer in told], [0, 0, 1, 15])

    def test_lines_need_no_0(self):
        self.places([[60, 70]], look(2, 16, 101, 10), [[[4, 0], [12, 100]]])

    def test_points_are_along_at_the_first_rows_number(self):
        # Along, from 0 to 10 in 21 dots, a number is at twice itself; upright 100 dots further up.
        rows = [[10, 0, 3, None], [100, -100, None, 50], [7, 8, -9, None]]
        self.places(rows, look(3, 21, 201, 10), [
            [-2, -2, -2, -2],
            [[20, 200], [0, 0], -2, -2],
            [[20, 107], [0, 108], [6, 91], -2]])

    def test_points_have_two_axes_of_their_own(self):
        rows = [[-5, 5], [1000, 2000]]
        self.places(rows, look(3, 31, 41, 10), [[-2, -2], [[0, 0], [30, 40]]])

    def test_a_point_without_its_first_number_still_is_on_the_axis(self):
        rows = data(2, [0, None], [0, 100])
        self.assertEqual(last(rows, look(3, 16, 101, 10), axis(0))[:3], [10, 0, 10])
        self.assertEqual(last(rows, look(3, 16, 101, 10), place(1, 0)), [0, 0, 0])

    def test_dots_are_the_nearest_and_the_upper_of_two(self):
        rows = [[1, 2, 0, 4], [1, 2, 0, 4]]
        self.places(rows, look(3, 17, 18, 4), [[-2] * 4, [[4, 4], [8, 9], [0, 0], [16, 17]]])


class RingTest(PlaceTest):
    def test_parts_are_told_by_those_before(self):
        self.places([[5, 3, 4]], look(4), [[[0, 5, 12], [5, 8, 12], [8, 12, 12]]])

    def test_parts_below_0_and_not_there_are_0(self):
        rows = [[5, None, -4, 7, 0], [9, 9, 9, 9, 9]]
        self.places(rows, look(4), [
            [[0, 5, 12], [5, 5, 12], [5, 5, 12], [5, 12, 12], [12, 12, 12]],
            [-2] * 5])

    def test_a_total_of_0(self):
        self.places([[0, None, -4]], look(4), [[[0, 0, 0]] * 3])

    def test_very_large_sums(self):
        told = last(data(512, [GREATEST] * 512), look(4), place(0, 511))
        self.assertEqual(told, [0, 511 * GREATEST, 512 * GREATEST, 512 * GREATEST])


class AfterwardsTest(unittest.TestCase):
    def test_place_changes_nothing(self):
        rows = data(2, [10, 20], [-5, 7])
        for kind in range(4):
            plain = asked(rows, look(kind, 40, 60, 5), axis(0), click(20, 30))[2:]
            self.assertEqual(asked(rows, look(kind, 40, 60, 5), place(1, 1), axis(0), place(1, 0), click(20, 30))[3::2],
                             plain)

    def test_the_last_rows_and_the_last_look_count(self):
        told = asked(data(1, [100]), look(2, 20, 201), place(0, 0), look(0, 20, 101), place(0, 0),
                     data(2, [50, 100]), place(0, 0), place(0, 1))
        self.assertEqual(told[4], [0, 2, 17, 0, 100])
        self.assertEqual(told[6:], [[0, 1, 9, 0, 50], [0, 11, 19, 0, 100]])


if __name__ == "__main__":
    unittest.main()
