"""Where lists of calls are handed in and their answers are given back."""

from dotcharts.bars import Bars
from dotcharts.chart import Chart, are_rows
from dotcharts.look import LINES, Look, POINTS, RING
from dotcharts.points import Points
from dotcharts.reading import Reader, row_numbers
from dotcharts.ring import Ring, ring_parts, shares_of

UPRIGHT = 0
ALONG = 1


def begins(chart, given, lists):
    """Makes all as at a line's beginning."""
    chart.begin_anew()
    return [0]


def data(chart, given, lists):
    """Takes rows of numbers in the place of those before."""
    rows = [row_numbers(told) for told in lists]
    if not are_rows(given[0], rows):
        return [-1]
    chart.rows = rows
    return [0]


def look(chart, given, lists):
    """Takes a look in the place of the one before."""
    wanted = Look(given[0], given[1], given[2], given[3])
    if not wanted.is_allowed():
        return [-1]
    chart.look = wanted
    return [0]


def axis(chart, given, lists):
    """Tells an axis: its steps, its start, their size, and their dots."""
    which = given[0]
    if which not in (UPRIGHT, ALONG):
        return [-1]
    if not chart.rows:
        return [-4]
    if chart.look.kind == RING or (which == ALONG and chart.look.kind != POINTS):
        return [-3]
    if which == ALONG:
        return told_axis(chart.along_axis(), chart.look.wide)
    return told_axis(chart.upright_axis(), chart.look.high)


def told_axis(shown, dots):
    """What is answered of an axis that has so many dots."""
    return [shown.steps, shown.start, shown.step] + shown.step_dots(dots)


def place(chart, given, lists):
    """Tells where a number lies."""
    if not chart.rows:
        return [-4]
    found = drawn(chart).place_of(given[0], given[1])
    if found is None:
        return [-2]
    return [0] + found


def click(chart, given, lists):
    """Tells the row and column of what lies at a dot."""
    if not chart.rows:
        return [-4]
    found = drawn(chart).one_at(given[0], given[1])
    if found is None:
        return [0]
    return [1] + found


def drawn(chart):
    """What the chart shows: points, a ring or bars."""
    if chart.look.kind in (LINES, POINTS):
        return Points(chart)
    if chart.look.kind == RING:
        return Ring(ring_parts(chart.rows[0]), chart.look)
    return Bars(chart)


def shares(chart, given, lists):
    """Tells for each part of the ring its share of a whole."""
    whole = given[0]
    if not 1 <= whole <= 1000000:
        return [-1]
    if not chart.rows:
        return [-4]
    parts = ring_parts(chart.rows[0])
    if sum(parts) == 0:
        return [-3]
    return [0] + shares_of(parts, whole)


# Each call stands at the place that is its number.
CALLS = (begins, data, look, axis, place, click, shares)


def answers(calls):
    """For each call, in order, how many numbers are answered, then these."""
    chart = Chart()
    reader = Reader(calls)
    told = []
    while not reader.at_end():
        call = CALLS[reader.take()]
        given = reader.take_list()
        lists = reader.take_lists()
        answer = call(chart, given, lists)
        told.append(len(answer))
        told.extend(answer)
    return told
