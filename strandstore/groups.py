"""What was read of one group's strands."""

from strandstore.polynomial import Polynomial


class ReadGroup:
    """Keeps the load of each place that was read; any k of them give back all."""

    def __init__(self, field, k):
        self.field = field
        self.k = k
        self.loads = {}
        # Blocks share groups, so a group is worked out once for all of them, until more of it is read.
        self.filled_loads = None

    def lacking_count(self):
        return max(0, self.k - len(self.loads))

    def load_read_at(self, place):
        return self.loads.get(place)

    def keep_load(self, place, load):
        self.loads[place] = load
        self.filled_loads = None

    def filled_load(self, place):
        """The load at a place below k, read or worked out; nothing is lacking."""
        if self.filled_loads is None:
            self.filled_loads = self.worked_out_loads()
        return self.filled_loads[place]

    def worked_out_loads(self):
        places = sorted(self.loads)[:self.k]
        loads = [self.loads[place] for place in places]
        polynomial = Polynomial(self.field, places)
        filled = []
        for place in range(self.k):
            # A place below k that was read is always among the k lowest: it's worked out as it is.
            if place in self.loads:
                filled.append(self.loads[place])
            else:
                filled.append(polynomial.load_at(place, loads))
        return filled
