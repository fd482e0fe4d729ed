"""How a chart looks: its kind, its size in dots, its axes' steps."""

SIDE_BY_SIDE = 0
STACKED = 1
LINES = 2
POINTS = 3
RING = 4


class Look:
    """A kind, how wide and how high it is in dots, how many steps an axis has at most."""

    def __init__(self, kind, wide, high, steps):
        self.kind = kind
        self.wide = wide
        self.high = high
        self.steps = steps

    def is_allowed(self):
        """Whether all of it is within the bounds."""
        if self.kind not in (SIDE_BY_SIDE, STACKED, LINES, POINTS, RING):
            return False
        return 16 <= self.wide <= 4096 and 16 <= self.high <= 4096 and 2 <= self.steps <= 64

    def band_of(self, column, columns):
        """The dots along of one of so many columns: from one to another, not that one."""
        return (column * self.wide // columns, (column + 1) * self.wide // columns)
