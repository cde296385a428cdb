"""What the tests share: lists of calls, their answers, and the document's reckoning done another way."""

from strandstore.strands import answers

CARRYING = [place for place in range(1, 65) if bin(place).count("1") > 1]


def sk_start(k, m, data):
    return [0, k, m, len(data)] + list(data)


def sk_strand(number):
    return [1, number]


def sr_start(k, m, n):
    return [2, k, m, n]


def sr_read(letters):
    return [3, len(letters)] + list(letters)


def sr_lacks():
    return [4]


def sr_bytes(block):
    return [5, block]


def split_answers(answered):
    """The list of answers as one list for each call."""
    parts = []
    rest = list(answered)
    while rest:
        count = rest[0]
        if len(rest) < 1 + count:
            raise ValueError("the answers end too early")
        parts.append(rest[1:1 + count])
        rest = rest[1 + count:]
    return parts


def ask(*calls):
    """The answers to these calls, one list for each."""
    numbers = [number for call in calls for number in call]
    if len(calls) > 1000 or len(numbers) > 30000:
        raise ValueError("the document tells of no such list")
    return split_answers(answers(numbers))


def some_bytes(n, seed=0):
    """Bytes of all values without a short period: the low byte of a row of squares."""
    return [((i + seed) * (i + seed + 3) // 2 + (i >> 5) * 37 + seed * 11) % 256 for i in range(n)]


def draws(seed):
    """Numbers from 0 to 2^31 - 1 in no plain order, the same ones each time."""
    value = seed
    while True:
        value = (value * 6364136223846793005 + 1442695040888963407) % 2 ** 64
        yield value >> 33


def mixed(items, seed):
    """The same items in another order."""
    return [item for draw, i, item in sorted((draw, i, item) for draw, (i, item) in zip(draws(seed), enumerate(items)))]


def letters_to_rows(letters):
    """The upper and the lower row, as texts of 0 and 1."""
    pairs = {65: "00", 67: "01", 71: "10", 84: "11"}
    return "".join(pairs[letter][0] for letter in letters), "".join(pairs[letter][1] for letter in letters)


def weighs(row):
    return sum(place * int(bit) for place, bit in zip(range(1, 65), row)) % 128


def read_strand(letters):
    """The number, the load and the two last carried bits."""
    carried = ["".join(row[place - 1] for place in CARRYING) for row in letters_to_rows(letters)]
    content = int(carried[0][:56] + carried[1][:56], 2).to_bytes(14, "big")
    return content[0] + 256 * content[1], list(content[2:]), carried[0][56] + carried[1][56]


def times(a, b):
    """A product by shifts, bit by bit, reduced by x^8 = x^4 + x^3 + x + 1."""
    product = 0
    while b:
        if b & 1:
            product ^= a
        a <<= 1
        if a & 0x100:
            a = (a & 0xFF) ^ 0b00011011
        b >>= 1
    return product


def inverse(a):
    """The number that gives 1 when multiplied with a, found by trying."""
    return next(b for b in range(1, 256) if times(a, b) == 1)


INVERSES = [0] + [inverse(a) for a in range(1, 256)]


def newton_differences(places, values):
    """Newton's divided differences of the polynomial with these values at these places."""
    k = len(values)
    differences = list(values)
    for order in range(1, k):
        for i in range(k - 1, order - 1, -1):
            step = places[i] ^ places[i - order]
            differences[i] = times(differences[i] ^ differences[i - 1], INVERSES[step])
    return differences


def newton_at(places, differences, point):
    value = 0
    for place, difference in zip(reversed(places), reversed(differences)):
        value = times(value, point ^ place) ^ difference
    return value


def newton_value(values, point):
    """At point, the polynomial with values[p] at each place p."""
    places = range(len(values))
    return newton_at(places, newton_differences(places, values), point)


def group_bytes(k, loads):
    """All bytes of a group, from a dict of the loads that were read, by their places."""
    places = sorted(loads)[:k]
    columns = [newton_differences(places, [loads[place][column] for place in places]) for column in range(12)]
    return [newton_at(places, column, point) for point in range(k) for column in columns]


def expected_load(k, m, data, number):
    """The load of a strand as the document tells it."""
    group, place = divmod(number, k + m)
    groups = -(-len(data) // (12 * k))
    padded = list(data) + [0] * (12 * k * groups - len(data))
    block = padded[12 * k * group:12 * k * (group + 1)]
    if place < k:
        return block[12 * place:12 * place + 12]
    return [newton_value(block[column::12], place) for column in range(12)]


def build_strand(number, load, last_bits="00"):
    """A right strand of any number, load and last carried bits."""
    content = "".join(f"{byte:08b}" for byte in [number & 255, number >> 8, *load])
    rows = []
    for carried in (content[:56] + last_bits[0], content[56:] + last_bits[1]):
        row = ["0"] * 64
        for place, bit in zip(CARRYING, carried, strict=True):
            row[place - 1] = bit
        for place in (64, 32, 16, 8, 4, 2, 1):
            if -weighs(row) % 128 >= place:
                row[place - 1] = "1"
        rows.append(row)
    return [b"ACGT"[int(upper + lower, 2)] for upper, lower in zip(*rows)]


def file_strands(k, m, data):
    """The letters of each strand of a file."""
    count = ask(sk_start(k, m, data))[0][0]
    strands = []
    for first in range(0, count, 999):
        numbers = range(first, min(first + 999, count))
        strands += [answer[1:] for answer in ask(sk_start(k, m, data), *[sk_strand(number) for number in numbers])[1:]]
    return strands


def letter_changed(letters):
    """All rows with one letter changed: each place, each other letter."""
    return [letters[:i] + [letter] + letters[i + 1:] for i in range(len(letters)) for letter in b"ACGT"
            if letter != letters[i]]


def letter_left_out(letters):
    return [letters[:i] + letters[i + 1:] for i in range(len(letters))]


def letter_put_in(letters):
    return [letters[:i] + [letter] + letters[i:] for i in range(len(letters) + 1) for letter in b"ACGT"]


def one_letter_off(letters):
    return [letters] + letter_changed(letters) + letter_left_out(letters) + letter_put_in(letters)


def is_right(letters):
    if sum(place for place, letter in enumerate(letters, start=1) if letter in b"GT") % 128 != 0:
        return False
    return sum(place for place, letter in enumerate(letters, start=1) if letter in b"CT") % 128 == 0


def right_strands_near(letters):
    """The right strands that a row of 63 to 65 letters is one letter off of, tried one by one."""
    tried = [row for row in one_letter_off(letters) if len(row) == 64]
    return sorted(set(tuple(row) for row in tried if is_right(row)))


class PlainReader:
    """A reader that keeps what it read as it is and works all out anew for each answer."""

    def __init__(self):
        self.size = None
        self.read = {}

    def start(self, k, m, n):
        if not (1 <= k <= 64 and 0 <= m <= 32 and 1 <= n <= 16384):
            return [-22]
        count = -(-n // (12 * k)) * (k + m)
        if count > 4096:
            return [-22]
        self.size = (k, m, n, count)
        self.read = {}
        return [count]

    def take(self, letters):
        if len(letters) not in (63, 64, 65) or any(letter not in b"ACGT" for letter in letters):
            return [-22]
        near = right_strands_near(list(letters))
        if not near:
            return [-74]
        number, load, last_bits = read_strand(near[0])
        if last_bits != "00" or number >= self.size[3]:
            return [-74]
        if number in self.read:
            return [0 if self.read[number] == load else -17]
        self.read[number] = load
        return [1]

    def groups(self):
        """For each group a dict of the loads that were read, by their places."""
        k, m, n, count = self.size
        return [{number - first: self.read[number] for number in range(first, first + k + m) if number in self.read}
                for first in range(0, count, k + m)]

    def lacks(self):
        return [sum(max(0, self.size[0] - len(loads)) for loads in self.groups())]

    def block(self, block):
        k, m, n, count = self.size
        if 256 * block >= n:
            return [-22]
        if self.lacks() != [0]:
            return [-11]
        whole = [byte for loads in self.groups() for byte in group_bytes(k, loads)][:n]
        part = whole[256 * block:256 * block + 256]
        return [len(part)] + part + [0] * (256 - len(part))
