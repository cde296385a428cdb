"""A strand's number and load as its 64 letters, and back."""

LETTERS = (65, 67, 71, 84)
STRAND_LENGTH = 64
WEIGHT_MODULUS = 128
# Each subset of these places has another sum, 0 to 127: so they can even out any weight.
WEIGHT_PLACES = (1, 2, 4, 8, 16, 32, 64)
ROW_BITS = 56


def bits_of(content):
    """The bits of some bytes, of each the highest first."""
    bits = []
    for byte in content:
        for shift in range(7, -1, -1):
            bits.append((byte >> shift) & 1)
    return bits


def bytes_of(bits):
    """The bytes that have these bits, of each the highest first."""
    content = []
    for first in range(0, len(bits), 8):
        byte = 0
        for bit in bits[first:first + 8]:
            byte = 2 * byte + bit
        content.append(byte)
    return content


def row_weight(row):
    return sum([place for place, bit in enumerate(row, start=1) if bit == 1]) % WEIGHT_MODULUS


def carrying_row(bits):
    """A row with the bits at its carrying places, rising, and 0 at all others."""
    row = []
    taken = 0
    for place in range(1, STRAND_LENGTH + 1):
        if place in WEIGHT_PLACES:
            row.append(0)
        else:
            row.append(bits[taken])
            taken = taken + 1
    return row


def carried_bits(row):
    """The bits at a row's carrying places, rising."""
    return [bit for place, bit in enumerate(row, start=1) if place not in WEIGHT_PLACES]


def right_row(bits):
    """The row that carries the bits and weighs 0."""
    row = carrying_row(bits)
    lacking = (WEIGHT_MODULUS - row_weight(row)) % WEIGHT_MODULUS
    for place in WEIGHT_PLACES:
        if (lacking & place) != 0:
            row[place - 1] = 1
    return row


def strand_letters(number, load):
    bits = bits_of([number % 256, number // 256] + load)
    upper_row = right_row(bits[:ROW_BITS] + [0])
    lower_row = right_row(bits[ROW_BITS:] + [0])
    return [LETTERS[2 * upper + lower] for upper, lower in zip(upper_row, lower_row)]


def are_letters(numbers):
    return all([number in LETTERS for number in numbers])


def upper_row_of(letters):
    return [LETTERS.index(letter) // 2 for letter in letters]


def lower_row_of(letters):
    return [LETTERS.index(letter) % 2 for letter in letters]


def strand_content(upper_row, lower_row):
    """The 14 bytes in a strand of these rows; None if a last carried bit isn't 0."""
    upper_bits = carried_bits(upper_row)
    lower_bits = carried_bits(lower_row)
    if upper_bits[ROW_BITS] != 0 or lower_bits[ROW_BITS] != 0:
        return None
    return bytes_of(upper_bits[:ROW_BITS] + lower_bits[:ROW_BITS])


def number_in(content):
    return content[0] + 256 * content[1]


def load_in(content):
    return content[2:]
