"""Promise 6: click tells what lies at a dot."""

import unittest

from asking import BEGINS, GREATEST, asked, click, data, last, look, place

LEAST = -2147483648
MOST = 2147483647


def every_dot(wide, high, around):
    """Each dot of a look and of so many dots around it."""
    return [(x, y) for y in range(-around, high + around) for x in range(-around, wide + around)]


def clicked(rows, shown, dots):
    """What is answered of each of some dots; so many at a time as a line may hold."""
    told = []
    for at in range(0, len(dots), 390):
        told += asked(rows, shown, *[click(x, y) for x, y in dots[at:at + 390]])[2:]
    return told


def placed(rows, shown, count, n):
    """What place tells of each number that has a place, by rows, then columns."""
    spots = [(i, j) for i in range(count) for j in range(n)]
    told = asked(rows, shown, *[place(i, j) for i, j in spots])[2:]
    return [(spot, answer[1:]) for spot, answer in zip(spots, told) if answer != [-2]]


class ClickTest(unittest.TestCase):
    def clicks(self, rows, shown, expected):
        """The dots are each answered as expected."""
        dots = list(expected)
        told = clicked(data(len(rows[0]), *rows), shown, dots)
        self.assertEqual(dict(zip(dots, told)), expected)


class RefusalsTest(ClickTest):
    def test_no_rows(self):
        for kind in range(5):
            for x, y in ((0, 0), (5, 5), (LEAST, LEAST), (MOST, MOST)):
                self.assertEqual(last(look(kind), click(x, y)), [-4])
                self.assertEqual(last(data(1, [5]), BEGINS, look(kind), click(x, y)), [-4])
                self.assertEqual(last(data(2, [5]), look(kind), click(x, y)), [-4])

    def test_far_dots(self):
        for kind in range(5):
            for x in (LEAST, MOST, 8):
                for y in (LEAST, MOST):
                    told = asked(data(1, [5], [6]), look(kind), click(x, y), click(y, x))[2:]
                    self.assertEqual(told, [[0], [0]])


class BarsTest(ClickTest):
    def test_side_by_side(self):
        # Along 2 to 8 and 8 to 14, 18 to 24 and 24 to 30; upright from dot 100 at 0.
        rows = [[100, -100], [None, 20]]
        self.clicks(rows, look(0, 32, 201), {
            (2, 100): [1, 0, 0], (7, 199): [1, 0, 0], (1, 100): [0], (8, 100): [0], (2, 99): [0], (2, 200): [0],
            (18, 0): [1, 0, 1], (23, 99): [1, 0, 1], (17, 50): [0], (18, 100): [0], (24, 99): [0],
            (24, 100): [1, 1, 1], (29, 119): [1, 1, 1], (30, 110): [0], (24, 120): [0]})

    def test_on_one_another(self):
        # Along 2 to 14 and 18 to 30.
        rows = [[40, -3], [-25, 30], [60, -97]]
        self.clicks(rows, look(1, 32, 201), {
            (2, 100): [1, 0, 0], (13, 139): [1, 0, 0], (2, 140): [1, 2, 0], (13, 199): [1, 2, 0], (13, 200): [0],
            (2, 99): [1, 1, 0], (13, 75): [1, 1, 0], (2, 74): [0], (1, 100): [0], (14, 100): [0],
            (18, 97): [1, 0, 1], (18, 99): [1, 0, 1], (18, 96): [1, 2, 1], (29, 0): [1, 2, 1],
            (18, 100): [1, 1, 1], (29, 129): [1, 1, 1], (29, 130): [0], (17, 110): [0], (30, 110): [0]})

    def test_a_bar_of_0_has_no_dot(self):
        rows = [[0, 100]]
        for kind in (0, 1):
            self.clicks(rows, look(kind, 32, 101), {(5, 0): [0], (5, 1): [0], (20, 0): [1, 0, 1], (20, 100): [0]})

    def test_dots_outside_the_look(self):
        rows = [[100] * 6]
        for kind in (0, 1):
            self.clicks(rows, look(kind, 16, 101), {
                (0, 0): [1, 0, 0], (-1, 0): [0], (0, -1): [0], (-1, -1): [0], (15, 0): [1, 0, 5], (16, 0): [0],
                (0, 99): [1, 0, 0], (0, 100): [0], (0, 101): [0]})

    def test_each_dot_has_the_bar_that_place_tells(self):
        numbers = [7, -3, None, 12, 0, -8, 5, 5, -1, 9, None, -12, 3]
        for kind in (0, 1):
            for count, n in ((1, 1), (1, 13), (2, 5), (3, 3), (4, 1), (5, 2), (2, 30)):
                rows = data(n, *[[numbers[(i * 5 + j * 3 + n) % 13] for j in range(n)] for i in range(count)])
                shown = look(kind, 27, 18, 5)
                bars = placed(rows, shown, count, n)
                dots = every_dot(27, 18, 2)
                for (x, y), answer in zip(dots, clicked(rows, shown, dots)):
                    having = [[1, i, j] for (i, j), (left, right, low, high) in bars
                              if left <= x < right and low <= y < high]
                    self.assertLessEqual(len(having), 1)
                    self.assertEqual(answer, having[0] if having else [0], (kind, count, n, x, y))


# How far along and how far up a dot is from a point.
NEAR = ((0, 0), (8, 0), (-8, 0), (0, 8), (0, -8), (7, 3), (-7, -3), (3, 7), (5, 6), (-6, 5))
NOT_NEAR = ((8, 1), (-8, -1), (1, 8), (-1, -8), (7, 4), (4, -7), (-4, 7), (-7, -4), (9, 0), (0, 9), (-9, 0), (0, -9))


class PointsTest(ClickTest):
    """In a look that is 101 wide and high, numbers from 0 to 100 are at the dots of the same number."""

    def test_64_is_near_and_65_is_not(self):
        for rows, kind, found in (([[0, 50, 100]], 2, [1, 0, 1]), ([[0, 50, 100], [0, 50, 100]], 3, [1, 1, 1])):
            self.clicks(rows, look(kind, 101, 101), {(50 + right, 50 + up): found for right, up in NEAR})
            self.clicks(rows, look(kind, 101, 101), {(50 + right, 50 + up): [0] for right, up in NOT_NEAR})

    def test_the_nearest_of_several(self):
        # Of row 1 the points are at 0, 0 and 4, 0 and 100, 100; of row 2 at 0, 3 and 4, 9 and 100, 97.
        self.clicks([[0, 4, 100], [0, 0, 100], [3, 9, 97]], look(3, 101, 101), {
            (1, 0): [1, 1, 0], (3, 0): [1, 1, 1], (0, 1): [1, 1, 0], (0, 2): [1, 2, 0], (4, 4): [1, 1, 1],
            (4, 5): [1, 2, 1], (1, 3): [1, 2, 0], (100, 99): [1, 1, 2], (100, 98): [1, 2, 2], (50, 50): [0]})

    def test_distances_are_by_squares(self):
        # From 5, 10 on: 5 along to one point, 3 along and 3 up to the other.
        self.clicks([[0, 8, 100], [10, 13, 100], [100, 100, 0]], look(3, 101, 101), {(5, 10): [1, 1, 1]})
        # 5 along to one, 4 along and 4 up to the other.
        self.clicks([[0, 9, 100], [10, 14, 100], [100, 100, 0]], look(3, 101, 101), {(5, 10): [1, 1, 0]})
        self.clicks([[9, 0, 100], [14, 10, 100], [100, 100, 0]], look(3, 101, 101), {(5, 10): [1, 1, 1]})

    def test_of_several_as_near_the_first_by_rows_then_columns(self):
        ends = [0, 100]
        shown = look(3, 101, 101)
        self.clicks([[50, 50] + ends, [50, 50] + ends, [50, 50] + ends], shown, {(50, 50): [1, 1, 0]})
        self.clicks([[46, 54] + ends, [50, 50] + ends, [90, 10] + ends], shown, {(50, 50): [1, 1, 0]})
        self.clicks([[46, 54] + ends, [20, 50] + ends, [50, 80] + ends], shown, {(50, 50): [1, 1, 1]})
        self.clicks([[54, 46] + ends, [20, 80] + ends, [50, 50] + ends], shown, {(50, 50): [1, 2, 0]})
        self.clicks([[50, 50] + ends, [45, 44] + ends, [56, 55] + ends], shown, {(50, 50): [1, 1, 0]})
        # Of lines 50 columns are at each second dot from 1 on.
        self.clicks([[0] * 49 + [100], [0] * 50], look(2, 100, 101), {(2, 0): [1, 0, 0], (8, 5): [1, 0, 3]})
        self.clicks([[None] + [0] * 48 + [100], [0] * 50], look(2, 100, 101), {(2, 0): [1, 0, 1], (1, 0): [1, 1, 0]})

    def test_numbers_without_a_point_are_not_found(self):
        shown = look(3, 101, 101)
        self.clicks([[0, 50, 100], [0, None, 100]], shown, {(50, 50): [0], (50, 0): [0]})
        self.clicks([[0, None, 100], [0, 50, 100]], shown, {(50, 50): [0], (0, 50): [0]})
        self.clicks([[0, 100], [100, 0]], shown, {(0, 0): [0], (100, 100): [0], (0, 100): [1, 1, 0]})
        self.clicks([[0, 100]], shown, {(0, 0): [0], (100, 100): [0]})
        self.clicks([[0, None, 100]], look(2, 101, 101), {(50, 50): [0], (50, 0): [0], (16, 0): [1, 0, 0]})

    def test_dots_outside_the_look_are_near_too(self):
        self.clicks([[0, 100], [0, 100]], look(3, 101, 101), {
            (-1, -1): [1, 1, 0], (-8, 0): [1, 1, 0], (0, -8): [1, 1, 0], (-8, -1): [0], (0, -9): [0],
            (101, 101): [1, 1, 1], (108, 100): [1, 1, 1], (100, 108): [1, 1, 1], (101, 108): [0], (109, 100): [0]})

    def test_each_dot_has_the_nearest_of_those_that_place_tells(self):
        numbers = [7, -3, None, 12, 0, -8, 5, 5, -1, 9, None, -12, 3]
        for kind in (2, 3):
            for count, n in ((1, 4), (2, 5), (3, 3), (4, 2), (2, 40)):
                rows = data(n, *[[numbers[(i * 5 + j * 3 + n) % 13] for j in range(n)] for i in range(count)])
                shown = look(kind, 33, 24, 5)
                points = placed(rows, shown, count, n)
                dots = every_dot(33, 24, 10)
                for (x, y), answer in zip(dots, clicked(rows, shown, dots)):
                    away = [((at[0] - x) ** 2 + (at[1] - y) ** 2, i, j) for (i, j), at in points]
                    nearest = min(away, default=(65,))
                    self.assertEqual(answer, [1, *nearest[1:]] if nearest[0] <= 64 else [0], (kind, count, n, x, y))


def round_the_ring(r):
    """How far round each dot of a square ring is, by going round it dot by dot from the top's middle."""
    far = {}
    u, v = 0, r
    for right, up, until in ((1, 0, (r, r)), (0, -1, (r, -r)), (-1, 0, (-r, -r)), (0, 1, (-r, r)), (1, 0, (0, r))):
        while (u, v) != until:
            far[(u, v)] = len(far)
            u, v = u + right, v + up
    return far


class RingTest(ClickTest):
    def test_how_far_round_it_is(self):
        # As many parts of 1 as dots round: the column is how far it is. At 16 wide and high 15 is outermost.
        self.clicks([[1] * 120], look(4), {
            (8, 15): [1, 0, 1], (14, 15): [1, 0, 13], (15, 15): [1, 0, 15],
            (15, 14): [1, 0, 17], (15, 8): [1, 0, 29], (15, 7): [1, 0, 31], (15, 0): [1, 0, 45],
            (14, 0): [1, 0, 47], (8, 0): [1, 0, 59], (7, 0): [1, 0, 61], (0, 0): [1, 0, 75],
            (0, 1): [1, 0, 77], (0, 7): [1, 0, 89], (0, 8): [1, 0, 91], (0, 15): [1, 0, 105],
            (1, 15): [1, 0, 107], (7, 15): [1, 0, 119]})
        # At 17 wide and high there are dots right above, beside and below the middle.
        self.clicks([[1] * 128], look(4, 17, 17), {
            (8, 16): [1, 0, 0], (7, 16): [1, 0, 126], (16, 8): [1, 0, 32], (8, 0): [1, 0, 64], (0, 8): [1, 0, 96]})

    def test_of_dots_further_in_it_is_as_far_round(self):
        # At 17 wide and high, those 12 from the middle, of 96 round.
        self.clicks([[1] * 96], look(4, 17, 17), {
            (8, 14): [1, 0, 0], (14, 14): [1, 0, 12], (14, 2): [1, 0, 36], (2, 2): [1, 0, 60], (2, 14): [1, 0, 84]})

    def test_inner_and_outer_bounds(self):
        self.clicks([[5]], look(4), {
            (12, 8): [1, 0, 0], (11, 8): [0], (3, 8): [1, 0, 0], (4, 8): [0], (8, 12): [1, 0, 0], (8, 11): [0],
            (8, 3): [1, 0, 0], (8, 4): [0], (15, 8): [1, 0, 0], (16, 8): [0], (-1, 8): [0], (8, -1): [0], (8, 16): [0]})
        # At 17 high dots are 8 and 16 from the middle: half of 16 is in, 16 is not.
        self.clicks([[5]], look(4, 16, 17), {
            (8, 12): [1, 0, 0], (8, 11): [0], (8, 4): [1, 0, 0], (8, 5): [0],
            (8, 15): [1, 0, 0], (8, 16): [0], (8, 1): [1, 0, 0], (8, 0): [0]})
        # Of 17 half is more than 8.
        self.clicks([[5]], look(4, 17, 17), {(13, 8): [1, 0, 0], (12, 8): [0], (16, 8): [1, 0, 0], (17, 8): [0]})

    def test_it_is_as_large_as_the_lesser_side(self):
        self.clicks([[5]], look(4, 40, 16), {
            (27, 8): [1, 0, 0], (28, 8): [0], (12, 8): [1, 0, 0], (11, 8): [0], (24, 8): [1, 0, 0], (23, 8): [0]})
        self.clicks([[5]], look(4, 16, 40), {
            (8, 27): [1, 0, 0], (8, 28): [0], (8, 12): [1, 0, 0], (8, 11): [0], (8, 24): [1, 0, 0], (8, 23): [0]})

    def test_parts_of_0_have_no_dot(self):
        # Halves: from the top to the right, from the bottom to the left.
        self.clicks([[0, 3, None, -9, 3, 0]], look(4, 17, 17), {
            (8, 16): [1, 0, 1], (9, 0): [1, 0, 1], (8, 0): [1, 0, 4], (7, 16): [1, 0, 4]})

    def test_only_the_first_row_is_shown(self):
        self.clicks([[0, 3], [3, 0], [9, 9]], look(4), {(15, 15): [1, 0, 1], (0, 15): [1, 0, 1]})

    def test_a_total_of_0(self):
        rows = [[0, None, -5], [1, 2, 3]]
        self.clicks(rows, look(4), {(15, 15): [0], (8, 15): [0], (0, 0): [0], (8, 8): [0]})
        self.clicks(rows, look(4, 17, 17), {(8, 16): [0], (16, 8): [0], (8, 8): [0]})

    def test_very_large_parts(self):
        self.clicks([[GREATEST] * 512], look(4, 4096, 4096), {
            (2048, 4095): [1, 0, 0], (4095, 4095): [1, 0, 64], (4095, 0): [1, 0, 192], (2047, 4095): [1, 0, 511]})

    def test_each_dot_of_the_ring_is_in_just_one_part(self):
        row = [4, None, 1, 0, -3, 9, 2, 1]
        total = 17
        bounds = [0, 4, 4, 5, 5, 5, 14, 16, 17]
        for wide, high in ((16, 16), (17, 17), (16, 17), (21, 18), (18, 21), (24, 16)):
            dots = every_dot(wide, high, 2)
            answers = clicked(data(8, row), look(4, wide, high), dots)
            for (x, y), answer in zip(dots, answers):
                u, v = 2 * x - wide + 1, 2 * y - high + 1
                r = max(abs(u), abs(v))
                parts = []
                if min(wide, high) / 2 <= r < min(wide, high):
                    far = round_the_ring(r)[(u, v)] * total
                    parts = [[1, 0, j] for j in range(8) if bounds[j] * 8 * r <= far < bounds[j + 1] * 8 * r]
                    self.assertEqual(len(parts), 1)
                self.assertEqual(answer, parts[0] if parts else [0], (wide, high, x, y))


class AfterwardsTest(unittest.TestCase):
    def test_click_changes_nothing(self):
        rows = data(2, [10, 20], [-5, 7])
        for kind in range(5):
            shown = look(kind, 40, 60, 5)
            dots = [(x, y) for x in range(-1, 42, 6) for y in range(-1, 62, 8)]
            once = asked(rows, shown, *[click(x, y) for x, y in dots])[2:]
            twice = asked(rows, shown, *[click(x, y) for x, y in dots + dots])[2:]
            self.assertEqual(twice, once + once)

    def test_the_last_rows_and_the_last_look_count(self):
        told = asked(data(1, [100]), click(2, 5), look(2, 20, 101), click(2, 5), click(10, 0), look(4), click(15, 15),
                     data(2, [0, 1]), click(15, 15), look(0), click(12, 0), click(2, 0))
        self.assertEqual([told[at] for at in (1, 3, 4, 6, 8, 10, 11)],
                         [[1, 0, 0], [0], [1, 0, 0], [1, 0, 0], [1, 0, 1], [1, 0, 1], [0]])


if __name__ == "__main__":
    unittest.main()
