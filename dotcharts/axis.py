"""Axes whose steps are good ones, and the dots of numbers on them."""


class Axis:
    """So many steps, all of one size, one behind another from a start on."""

    def __init__(self, start, step, steps):
        self.start = start
        self.step = step
        self.steps = steps

    def dot_of(self, number, dots):
        """The dot nearest to a number, where the axis has so many dots."""
        span = self.steps * self.step
        return (2 * (number - self.start) * (dots - 1) + span) // (2 * span)

    def step_dots(self, dots):
        """The dots of the start and of each step's end."""
        return [self.dot_of(self.start + passed * self.step, dots) for passed in range(self.steps + 1)]


def good_steps():
    """All good steps, the least first."""
    steps = []
    power = 1
    for exponent in range(56):
        steps.extend([power, 2 * power, 5 * power])
        power = power * 10
    return steps


def steps_between(low, high, step):
    """How many steps it takes from at or below low to at or above high."""
    # Negated twice, as quotients are rounded down and this one is to be rounded up.
    return -(-high // step) - low // step


def axis_of(numbers, most):
    """The axis that shows these numbers with so many steps at most; of none, that of 0."""
    shown = numbers if numbers else [0]
    low = min(shown)
    high = max(shown)
    if high == low:
        high = low + 10 ** 12
    step = min([good for good in good_steps() if steps_between(low, high, good) <= most])
    return Axis(low // step * step, step, steps_between(low, high, step))
