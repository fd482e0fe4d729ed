"""What the tests share: calls written as the interface tells, and answers parted."""

from dotcharts.desk import answers

BEGINS = [0, 0, 0]
GREATEST = 10 ** 36 - 1


def data(n, *rows):
    """A call of data; None stands for a number that isn't there."""
    told = [1, 1, n, len(rows)]
    for row in rows:
        flat = []
        for number in row:
            flat += [0] if number is None else [1, number]
        told += [len(flat)] + flat
    return told


def look(kind, wide=16, high=16, steps=10):
    return [2, 4, kind, wide, high, steps, 0]


def axis(which):
    return [3, 1, which, 0]


def place(i, j):
    return [4, 2, i, j, 0]


def click(x, y):
    return [5, 2, x, y, 0]


def shares(whole):
    return [6, 1, whole, 0]


def asked(*calls):
    """Each call's answer, as a list, all asked of one new object."""
    told = answers([number for call in calls for number in call])
    parted = []
    at = 0
    while at < len(told):
        parted.append(told[at + 1:at + 1 + told[at]])
        at += 1 + told[at]
    assert at == len(told) and len(parted) == len(calls)
    return parted


def last(*calls):
    """The answer of the last of some calls."""
    return asked(*calls)[-1]
