"""One chart: its rows of numbers, its look, and the axes that come of both."""

from dotcharts.axis import axis_of
from dotcharts.look import Look, POINTS, SIDE_BY_SIDE, STACKED


class Chart:
    """Rows of numbers, all as long, None where a number isn't there; and a look."""

    def __init__(self):
        self.begin_anew()

    def begin_anew(self):
        """All as at a line's beginning."""
        self.rows = []
        self.look = Look(SIDE_BY_SIDE, 16, 16, 10)

    def columns(self):
        """How many columns there are, once there are rows."""
        return len(self.rows[0])

    def number_at(self, row, column):
        """The number of a row in a column, None if there's none."""
        if row >= len(self.rows) or column >= self.columns():
            return None
        return self.rows[row][column]

    def upright_axis(self):
        """The axis from below to above, for every kind but the ring."""
        return axis_of(upright_numbers(self.look.kind, self.rows), self.look.steps)

    def along_axis(self):
        """The axis from left to right, for points alone."""
        return axis_of(numbers_there(self.rows[0]), self.look.steps)


def are_rows(length, rows):
    """Whether a chart may have these rows, each to be so long."""
    if not 1 <= length <= 512 or not 1 <= len(rows) <= 16:
        return False
    for row in rows:
        if len(row) != length or any([abs(number) >= 10 ** 36 for number in numbers_there(row)]):
            return False
    return True


def numbers_there(row):
    """The numbers of a row that are there."""
    return [number for number in row if number is not None]


def all_numbers(rows):
    """The numbers of some rows that are there."""
    numbers = []
    for row in rows:
        numbers.extend(numbers_there(row))
    return numbers


def column_sums(rows):
    """For each column the sum of its numbers that aren't below 0, and of those that are."""
    sums = []
    for column in range(len(rows[0])):
        numbers = numbers_there([row[column] for row in rows])
        sums.append(sum([number for number in numbers if number >= 0]))
        sums.append(sum([number for number in numbers if number < 0]))
    return sums


def upright_numbers(kind, rows):
    """The numbers that the upright axis is to show."""
    # Bars stand on 0, so their axis shows it, too.
    if kind == SIDE_BY_SIDE:
        return all_numbers(rows) + [0]
    if kind == STACKED:
        return column_sums(rows) + [0]
    if kind == POINTS:
        return all_numbers(rows[1:])
    return all_numbers(rows)
