"""The reader: from strands back to bytes."""

from strandstore.sizes import Size
from strandstore.sizes import WRONG_SIZE


class Reader:
    """Each method that a call asks for gives back the list of numbers that is answered."""

    def __init__(self):
        self.size = None

    def begin(self, k, m, n):
        size = Size(k, m, n)
        if not size.is_as_told():
            return [WRONG_SIZE]
        self.size = size
        return [size.strand_count()]
