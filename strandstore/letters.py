"""A strand's number and load as its 64 letters."""

LETTERS = (65, 67, 71, 84)
STRAND_LENGTH = 64
WEIGHT_MODULUS = 128
# Each subset of these places has another sum, 0 to 127: so they can even out any weight.
WEIGHT_PLACES = (1, 2, 4, 8, 16, 32, 64)
ROW_BITS = 56


def bits_of(content):
    """The bits of some bytes, of each the highest first."""
    bits = []
    for byte in content:
        for shift in range(7, -1, -1):
            bits.append((byte >> shift) & 1)
    return bits


def row_weight(row):
    return sum([place for place, bit in enumerate(row, start=1) if bit == 1]) % WEIGHT_MODULUS


def carrying_row(bits):
    """A row with the bits at its carrying places, rising, and 0 at all others."""
    row = []
    taken = 0
    for place in range(1, STRAND_LENGTH + 1):
        if place in WEIGHT_PLACES:
            row.append(0)
        else:
            row.append(bits[taken])
            taken = taken + 1
    return row


def right_row(bits):
    """The row that carries the bits and weighs 0."""
    row = carrying_row(bits)
    lacking = (WEIGHT_MODULUS - row_weight(row)) % WEIGHT_MODULUS
    for place in WEIGHT_PLACES:
        if (lacking & place) != 0:
            row[place - 1] = 1
    return row


def strand_letters(number, load):
    bits = bits_of([number % 256, number // 256] + load)
    upper_row = right_row(bits[:ROW_BITS] + [0])
    lower_row = right_row(bits[ROW_BITS:] + [0])
    return [LETTERS[2 * upper + lower] for upper, lower in zip(upper_row, lower_row)]
