"""What the tests share: lists of calls, their answers, and the document's reckoning done another way."""

from strandstore.strands import answers

CARRYING = [place for place in range(1, 65) if bin(place).count("1") > 1]


def sk_start(k, m, data):
    return [0, k, m, len(data)] + list(data)


def sk_strand(number):
    return [1, number]


def sr_start(k, m, n):
    return [2, k, m, n]


def split_answers(answered):
    """The list of answers as one list for each call."""
    parts = []
    rest = list(answered)
    while rest:
        count = rest[0]
        if len(rest) < 1 + count:
            raise ValueError("the answers end too early")
        parts.append(rest[1:1 + count])
        rest = rest[1 + count:]
    return parts


def ask(*calls):
    """The answers to these calls, one list for each."""
    return split_answers(answers([number for call in calls for number in call]))


def some_bytes(n, seed=0):
    """Bytes of all values without a short period: the low byte of a row of squares."""
    return [((i + seed) * (i + seed + 3) // 2 + (i >> 5) * 37 + seed * 11) % 256 for i in range(n)]


def letters_to_rows(letters):
    """The upper and the lower row, as texts of 0 and 1."""
    pairs = {65: "00", 67: "01", 71: "10", 84: "11"}
    return "".join(pairs[letter][0] for letter in letters), "".join(pairs[letter][1] for letter in letters)


def weighs(row):
    return sum(place * int(bit) for place, bit in zip(range(1, 65), row)) % 128


def read_strand(letters):
    """The number, the load and the two last carried bits."""
    carried = ["".join(row[place - 1] for place in CARRYING) for row in letters_to_rows(letters)]
    content = int(carried[0][:56] + carried[1][:56], 2).to_bytes(14, "big")
    return content[0] + 256 * content[1], list(content[2:]), carried[0][56] + carried[1][56]


def times(a, b):
    """A product by shifts, bit by bit, reduced by x^8 = x^4 + x^3 + x + 1."""
    product = 0
    while b:
        if b & 1:
            product ^= a
        a <<= 1
        if a & 0x100:
            a = (a & 0xFF) ^ 0b00011011
        b >>= 1
    return product


def inverse(a):
    """The number that gives 1 when multiplied with a, found by trying."""
    return next(b for b in range(1, 256) if times(a, b) == 1)


INVERSES = [0] + [inverse(a) for a in range(1, 256)]


def newton_value(values, point):
    """At point, the polynomial with values[p] at each place p, by Newton's divided differences."""
    k = len(values)
    differences = list(values)
    for order in range(1, k):
        for p in range(k - 1, order - 1, -1):
            step = p ^ (p - order)
            differences[p] = times(differences[p] ^ differences[p - 1], INVERSES[step])
    value = 0
    for p in range(k - 1, -1, -1):
        value = times(value, point ^ p) ^ differences[p]
    return value


def expected_load(k, m, data, number):
    """The load of a strand as the document tells it."""
    group, place = divmod(number, k + m)
    groups = -(-len(data) // (12 * k))
    padded = list(data) + [0] * (12 * k * groups - len(data))
    block = padded[12 * k * group:12 * k * (group + 1)]
    if place < k:
        return block[12 * place:12 * place + 12]
    return [newton_value(block[column::12], place) for column in range(12)]
