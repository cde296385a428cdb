"""Numbers of eight bits: added by exclusive or, multiplied with x^8 = x^4 + x^3 + x + 1."""

NUMBERS = 256
NONZERO = 255
# x^8 + x^4 + x^3 + x + 1, a bit for each power of x.
MODULUS = 283


def times_x_plus_one(number):
    shifted = number << 1
    if shifted >= NUMBERS:
        shifted = shifted ^ MODULUS
    return shifted ^ number


class Field:
    """Multiplies by logarithms, since a strand of a large group takes many products."""

    def __init__(self):
        self.powers = []
        # 0 has no logarithm; its entry is there so that a number is its own index.
        self.logs = [0] * NUMBERS
        # The powers of x + 1 run through all numbers but 0; those of x don't.
        number = 1
        for exponent in range(NONZERO):
            self.powers.append(number)
            self.logs[number] = exponent
            number = times_x_plus_one(number)

    def power(self, exponent):
        return self.powers[exponent % NONZERO]

    def multiply(self, left, right):
        if left == 0 or right == 0:
            return 0
        return self.power(self.logs[left] + self.logs[right])
