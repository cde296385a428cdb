"""The reader: from strands back to bytes."""

from strandstore.groups import ReadGroup
from strandstore.letters import load_in
from strandstore.letters import number_in
from strandstore.mending import may_be_mended
from strandstore.mending import mended_content
from strandstore.sizes import LOAD_LENGTH
from strandstore.sizes import Size
from strandstore.sizes import WRONG_SIZE

BLOCK_LENGTH = 256

WRONG_LETTERS = -22
NOT_MENDED = -74
ANOTHER_LOAD = -17
READ_BEFORE = 0
READ_NOW = 1
NO_BLOCK = -22
STRANDS_LACKING = -11


class Reader:
    """Each method that a call asks for gives back the list of numbers that is answered."""

    def __init__(self, field):
        self.field = field
        self.size = None
        self.groups = []

    def begin(self, k, m, n):
        size = Size(k, m, n)
        if not size.is_as_told():
            return [WRONG_SIZE]
        self.size = size
        self.groups = [ReadGroup(self.field, k) for group in range(size.group_count())]
        return [size.strand_count()]

    def read(self, letters):
        if not may_be_mended(letters):
            return [WRONG_LETTERS]
        content = mended_content(letters)
        if content is None:
            return [NOT_MENDED]
        number = number_in(content)
        if number >= self.size.strand_count():
            return [NOT_MENDED]
        return [self.keep_strand(number, load_in(content))]

    def keep_strand(self, number, load):
        group = self.groups[self.size.group_of(number)]
        place = self.size.place_of(number)
        earlier = group.load_read_at(place)
        if earlier is None:
            group.keep_load(place, load)
            return READ_NOW
        if earlier == load:
            return READ_BEFORE
        return ANOTHER_LOAD

    def lacks(self):
        return [self.lacking_count()]

    def lacking_count(self):
        # Group by group: what one has above k is of no use to another.
        return sum([group.lacking_count() for group in self.groups])

    def block(self, number):
        first = BLOCK_LENGTH * number
        if first >= self.size.n:
            return [NO_BLOCK]
        if self.lacking_count() > 0:
            return [STRANDS_LACKING]
        content = self.file_bytes(first, min(first + BLOCK_LENGTH, self.size.n))
        return [len(content)] + content + [0] * (BLOCK_LENGTH - len(content))

    def file_bytes(self, first, end):
        """The file's bytes from first on, as far as ahead of end."""
        first_load = first // LOAD_LENGTH
        content = []
        for index in range(first_load, (end - 1) // LOAD_LENGTH + 1):
            group = self.groups[index // self.size.k]
            content.extend(group.filled_load(index % self.size.k))
        skipped = LOAD_LENGTH * first_load
        return content[first - skipped:end - skipped]
