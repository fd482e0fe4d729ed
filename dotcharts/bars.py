"""Bars, side by side or on one another: where each lies, and which one has a dot."""

from dotcharts.chart import numbers_there
from dotcharts.look import STACKED


class Bars:
    """A chart's bars; its upright axis is worked out once for all of them."""

    def __init__(self, chart):
        self.chart = chart
        self.upright = chart.upright_axis()

    def place_of(self, row, column):
        """From and to along, from and to upright; None if there's no such bar."""
        if self.chart.number_at(row, column) is None:
            return None
        return self.sides_of(row, column) + self.ends_of(row, column)

    def one_at(self, x, y):
        """The row and column of the bar that has the dot, None if none has it."""
        for column in range(self.chart.columns()):
            band = self.chart.look.band_of(column, self.chart.columns())
            if band[0] <= x < band[1]:
                return self.one_within(column, x, y)
        return None

    def one_within(self, column, x, y):
        """The row and column of the bar of this column that has the dot, None if none has it."""
        for row in range(len(self.chart.rows)):
            found = self.place_of(row, column)
            if found is not None and found[0] <= x < found[1] and found[2] <= y < found[3]:
                return [row, column]
        return None

    def sides_of(self, row, column):
        """From and to along."""
        band = self.chart.look.band_of(column, self.chart.columns())
        free = (band[1] - band[0]) // 4
        inner = band[1] - band[0] - free
        left = band[0] + free // 2
        if self.chart.look.kind == STACKED:
            return [left, left + inner]
        count = len(self.chart.rows)
        return [left + row * inner // count, left + (row + 1) * inner // count]

    def ends_of(self, row, column):
        """From and to upright."""
        base = self.base_of(row, column)
        high = self.chart.look.high
        number = self.chart.number_at(row, column)
        return sorted([self.upright.dot_of(base, high), self.upright.dot_of(base + number, high)])

    def base_of(self, row, column):
        """The number that the bar stands on."""
        if self.chart.look.kind != STACKED:
            return 0
        # Those below 0 hang from 0 downward, so each sign is added up by itself.
        below = self.chart.number_at(row, column) < 0
        before = numbers_there([numbers[column] for numbers in self.chart.rows[:row]])
        return sum([number for number in before if (number < 0) == below])
