"""How a list of calls, told as whole numbers, is read."""


class Reader:
    """Goes through a list of whole numbers once; the list itself stays as it is."""

    def __init__(self, told):
        self.told = told
        self.at = 0

    def at_end(self):
        """Whether nothing is left to read."""
        return self.at >= len(self.told)

    def take(self):
        """The next whole number."""
        number = self.told[self.at]
        self.at = self.at + 1
        return number

    def take_list(self):
        """The next list, which its length is told before."""
        length = self.take()
        begin = self.at
        self.at = begin + length
        return self.told[begin:self.at]

    def take_lists(self):
        """The next lists, which their count is told before."""
        lists = []
        for turn in range(self.take()):
            lists.append(self.take_list())
        return lists


def row_numbers(told):
    """A row's numbers, None for each that isn't there."""
    reader = Reader(told)
    numbers = []
    while not reader.at_end():
        there = reader.take()
        numbers.append(reader.take() if there == 1 else None)
    return numbers
