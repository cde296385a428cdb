"""The polynomial of lowest degree through the bytes at some places, worked out at another place."""

from strandstore.sizes import LOAD_LENGTH


class Polynomial:
    """Lagrange's sum: each byte counts with a weight that hangs on the places alone.

    The part of the weights that is the same for every target takes a walk of all pairs of places,
    so it is worked out once and kept.
    """

    def __init__(self, field, places):
        self.field = field
        self.places = places
        self.divisor_logs = [self.distance_log(place) for place in self.places]

    def distance_log(self, point):
        """The logarithm of the product of point's distances from the places other than itself."""
        logs = self.field.logs
        return sum([logs[point ^ place] for place in self.places if place != point])

    def weights_at(self, target):
        """One weight for each place; target is none of the places."""
        logs = self.field.logs
        whole_log = self.distance_log(target)
        weights = []
        for place, divisor_log in zip(self.places, self.divisor_logs):
            weights.append(self.field.power(whole_log - logs[target ^ place] - divisor_log))
        return weights

    def load_at(self, target, loads):
        """The load at target, byte by byte; loads stand in the order of the places."""
        total = [0] * LOAD_LENGTH
        for weight, load in zip(self.weights_at(target), loads):
            total = [part ^ self.field.multiply(weight, byte) for part, byte in zip(total, load)]
        return total
