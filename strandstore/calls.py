"""The list of calls, taken number by number."""


class CallNumbers:
    """Keeps how far the list was taken, so that the list itself is never changed."""

    def __init__(self, numbers):
        self.numbers = numbers
        self.taken = 0

    def is_taken(self):
        return self.taken == len(self.numbers)

    def take_number(self):
        number = self.numbers[self.taken]
        self.taken = self.taken + 1
        return number

    def take_row(self):
        """A row, as a list of its own, with how many numbers it has before it."""
        length = self.take_number()
        row = self.numbers[self.taken:self.taken + length]
        self.taken = self.taken + length
        return row
