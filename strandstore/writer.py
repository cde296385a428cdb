"""The writer: from bytes to strands."""

from strandstore.letters import strand_letters
from strandstore.polynomial import Polynomial
from strandstore.sizes import LOAD_LENGTH
from strandstore.sizes import Size
from strandstore.sizes import WRONG_SIZE

NO_STRAND = -2


class Writer:
    """Each method that a call asks for gives back the list of numbers that is answered."""

    def __init__(self, field):
        self.field = field
        self.size = None
        self.polynomial = None
        self.data = []

    def begin(self, k, m, data):
        size = Size(k, m, len(data))
        if not size.is_as_told():
            return [WRONG_SIZE]
        self.size = size
        self.polynomial = Polynomial(self.field, list(range(k)))
        self.data = data
        return [size.strand_count()]

    def strand(self, number):
        if number >= self.size.strand_count():
            return [NO_STRAND]
        return [0] + strand_letters(number, self.load_of(number))

    def load_of(self, number):
        group = self.size.group_of(number)
        place = self.size.place_of(number)
        if place < self.size.k:
            return self.filled_load(group, place)
        loads = [self.filled_load(group, filled) for filled in range(self.size.k)]
        return self.polynomial.load_at(place, loads)

    def filled_load(self, group, place):
        """The bytes at a place below k, with 0 behind the last one."""
        first = LOAD_LENGTH * (self.size.k * group + place)
        load = self.data[first:first + LOAD_LENGTH]
        return load + [0] * (LOAD_LENGTH - len(load))
