"""The ring: its parts, which one has a dot, and what share of a whole each has."""


class Ring:
    """The parts of a ring, told by the parts before each and all of them together."""

    def __init__(self, parts, look):
        self.look = look
        self.bounds = [0]
        for part in parts:
            self.bounds.append(self.bounds[-1] + part)

    def place_of(self, row, column):
        """The parts before it, those and it, all of them; None if there's no such part."""
        if row != 0 or column >= len(self.bounds) - 1:
            return None
        return [self.bounds[column], self.bounds[column + 1], self.bounds[-1]]

    def one_at(self, x, y):
        """Row 0 and the column of the part that has the dot, None if none has it."""
        u = 2 * x - (self.look.wide - 1)
        v = 2 * y - (self.look.high - 1)
        r = max(abs(u), abs(v))
        side = min(self.look.wide, self.look.high)
        if not r < side <= 2 * r:
            return None
        # Of a total of 0 all bounds are 0 and so is this, which no part then has between its bounds.
        reached = far_round(u, v, r) * self.bounds[-1]
        for column in range(len(self.bounds) - 1):
            if self.bounds[column] * 8 * r <= reached < self.bounds[column + 1] * 8 * r:
                return [0, column]
        return None


def far_round(u, v, r):
    """How far round a dot is, of 8 r: from the middle of the upper side on, to the right."""
    if v == r and u >= 0:
        return u
    if u == r:
        return 2 * r - v
    if v == -r:
        return 4 * r - u
    if u == -r:
        return 6 * r + v
    return 8 * r + u


def ring_parts(row):
    """The ring's part of each number of a row."""
    return [0 if number is None or number < 0 else number for number in row]


def shares_of(parts, whole):
    """Each part's share of a whole; together they are the whole."""
    total = sum(parts)
    shares = [part * whole // total for part in parts]
    losses = [part * whole % total for part in parts]
    # Sorted keeps those that lost as much in their order.
    by_loss = sorted(range(len(parts)), key=lambda column: -losses[column])
    for column in by_loss[:whole - sum(shares)]:
        shares[column] = shares[column] + 1
    return shares
