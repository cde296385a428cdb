"""How many strands there are, and where each one stands."""

LOAD_LENGTH = 12
MOST_FILLED = 64
MOST_SPARE = 32
MOST_BYTES = 16384
MOST_STRANDS = 4096

WRONG_SIZE = -22


class Size:
    """k strands with bytes in each group, m more, n bytes in all."""

    def __init__(self, k, m, n):
        self.k = k
        self.m = m
        self.n = n

    def is_as_told(self):
        # The ranges go first: with k = 0 the groups can't be counted.
        return self.is_in_range() and self.strand_count() <= MOST_STRANDS

    def is_in_range(self):
        return 1 <= self.k <= MOST_FILLED and 0 <= self.m <= MOST_SPARE and 1 <= self.n <= MOST_BYTES

    def group_length(self):
        return self.k + self.m

    def group_count(self):
        group_bytes = LOAD_LENGTH * self.k
        return (self.n + group_bytes - 1) // group_bytes

    def strand_count(self):
        return self.group_count() * self.group_length()

    def group_of(self, number):
        return number // self.group_length()

    def place_of(self, number):
        return number % self.group_length()
