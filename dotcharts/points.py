"""Points, of lines or by themselves: where each lies, and which one is nearest to a dot."""

from dotcharts.look import POINTS

# The squares of both distances together, of a point that a click still finds.
FARTHEST = 64


class Points:
    """A chart's points; its upright axis and its columns' dots are worked out once for all of them."""

    def __init__(self, chart):
        self.chart = chart
        self.upright = chart.upright_axis()
        # The first row tells where points lie along, it has none itself.
        self.first = 1 if chart.look.kind == POINTS else 0
        self.alongs = column_dots(chart)

    def place_of(self, row, column):
        """The dot along and the dot upright; None if there's no such point."""
        number = self.chart.number_at(row, column)
        if number is None or row < self.first or self.alongs[column] is None:
            return None
        return [self.alongs[column], self.upright.dot_of(number, self.chart.look.high)]

    def one_at(self, x, y):
        """The row and column of the point nearest to the dot, None if none is near."""
        nearest = None
        least = FARTHEST + 1
        for row in range(self.first, len(self.chart.rows)):
            for column in range(self.chart.columns()):
                found = self.place_of(row, column)
                if found is not None:
                    away = (found[0] - x) ** 2 + (found[1] - y) ** 2
                    # Of several as near the first stays, so no other takes its place.
                    if away < least:
                        nearest = [row, column]
                        least = away
        return nearest


def column_dots(chart):
    """For each column the dot along of its points, None if it can't have any."""
    look = chart.look
    if look.kind == POINTS:
        shown = chart.along_axis()
        return [None if number is None else shown.dot_of(number, look.wide) for number in chart.rows[0]]
    return [sum(look.band_of(column, chart.columns())) // 2 for column in range(chart.columns())]
