"""Point 4: reading strands, as they are and one letter off."""

import unittest

from helper import ask, build_strand, file_strands, letter_changed, letter_left_out, letter_put_in, mixed
from helper import one_letter_off, read_strand, right_strands_near, some_bytes, sr_bytes, sr_lacks, sr_read, sr_start

# 2 groups of 5 strands, 3 with bytes in each.
SIZE = (3, 2, 50)
DATA = some_bytes(50, 8)
STRANDS = file_strands(3, 2, DATA)
START = sr_start(*SIZE)

# What was read ahead of a refusal: nothing; too little; enough.
STATES = [[], [STRANDS[number] for number in (4, 1, 5, 9)], [STRANDS[number] for number in (4, 1, 0, 9, 6, 8, 5)]]
# Asks for all that a reader has: which strands it read with which load shows at the reads.
QUESTIONS = ([sr_lacks(), sr_bytes(0)] + [sr_read(letters) for letters in STRANDS] + [sr_lacks(), sr_bytes(0)])

# Strands with one bit, without any, with many; numbers of one byte and of two.
CHOSEN = [
    build_strand(0, [0] * 12),
    build_strand(0, [255] * 12),
    build_strand(1, [0x80] + [0] * 11),
    build_strand(170, [0b10101010] * 12),
    build_strand(3855, [0b11001100, 0b00110011] * 6),
    build_strand(4095, some_bytes(12, 77)),
]


def another_load(number, byte=0):
    """A right strand of the number whose load differs from the file's in one byte."""
    load = read_strand(STRANDS[number])[1]
    load[byte] ^= 1
    return build_strand(number, load)


def some_of(rows, step):
    return rows[::step] + rows[-1:]


class ReadCase(unittest.TestCase):

    def assert_read(self, start, rows, answer):
        """Each of the rows, read by a reader that is new, is answered so."""
        for first in range(0, len(rows), 200):
            part = rows[first:first + 200]
            answered = ask(*[call for row in part for call in (start, sr_read(row))])
            for row, answer_to_row in zip(part, answered[1::2], strict=True):
                self.assertEqual(answer_to_row, [answer], bytes(row))

    def assert_refused(self, row, answer):
        """The row is answered so, whatever was read, and all is as it was."""
        for state in STATES:
            reads = [sr_read(letters) for letters in state]
            without = ask(START, *reads, *QUESTIONS)
            answered = ask(START, *reads, sr_read(row), *QUESTIONS)
            self.assertEqual(answered[len(reads) + 1], [answer], bytes(row))
            self.assertEqual(answered[:len(reads) + 1] + answered[len(reads) + 2:], without, bytes(row))


class TestThisTestsOwn(unittest.TestCase):

    def test_strands_are_built_as_the_writer_does(self):
        for number, letters in enumerate(STRANDS):
            self.assertEqual(build_strand(number, read_strand(letters)[1]), letters)

    def test_the_states_differ(self):
        shown = [ask(START, *[sr_read(letters) for letters in state], *QUESTIONS[:2])[-2:] for state in STATES]
        self.assertEqual(shown, [[[6], [-11]], [[2], [-11]], [[0], [50] + DATA + [0] * 206]])


class TestWrongLetters(ReadCase):

    def test_each_length_of_one_letter_alone(self):
        # 63, 64 and 65 times A are one letter off of strand 0 with nothing but 0 as its load.
        for letters in range(101):
            expected = [1] if 63 <= letters <= 65 else [-22]
            self.assertEqual(ask(sr_start(1, 0, 1), sr_read([65] * letters))[1], expected, letters)

    def test_too_short_and_too_long(self):
        whole = STRANDS[3]
        for row in ([], whole[:1], whole[:32], whole[:62], whole[1:63], whole + whole[:2], whole + whole[:36]):
            self.assertIn(len(row), (0, 1, 32, 62, 66, 100))
            self.assert_refused(row, -22)

    def test_none_of_the_four_at_the_first_place_in_the_middle_and_at_the_last(self):
        for row in (STRANDS[3], STRANDS[3][:-1], STRANDS[3] + [65]):
            for i in (0, 1, 31, 32, 61, 62, len(row) - 1):
                for letter in (0, 66, 255):
                    self.assert_refused(row[:i] + [letter] + row[i + 1:], -22)

    def test_each_other_number(self):
        others = [letter for letter in range(256) if letter not in (65, 67, 71, 84)]
        self.assertEqual(len(others), 252)
        for i in (0, 40, 63):
            self.assert_read(START, [STRANDS[2][:i] + [letter] + STRANDS[2][i + 1:] for letter in others], -22)

    def test_one_put_in_that_is_none_of_the_four(self):
        for i in (0, 32, 64):
            for letter in (0, 64, 97, 255):
                self.assert_refused(STRANDS[1][:i] + [letter] + STRANDS[1][i:], -22)

    def test_all_are_none_of_the_four(self):
        for length in (63, 64, 65):
            self.assert_refused([78] * length, -22)

    def test_ahead_of_the_other_refusals(self):
        behind = build_strand(10, [7] * 12)
        last_bit = build_strand(3, [7] * 12, "10")
        unmended = STRANDS[3][:10] + STRANDS[3][12:] + [84]
        self.assertEqual(right_strands_near(unmended), [])
        for row in (behind, last_bit, unmended, another_load(4), STRANDS[3][:62], STRANDS[3] + [65, 65]):
            for i in (0, 33, len(row) - 1):
                self.assert_refused(row[:i] + [85] + row[i + 1:], -22)


class TestMended(ReadCase):

    def assert_mended(self, letters, rows):
        """Each row is read as the strand, by a reader that is new and by one that read the strand."""
        start = sr_start(1, 3, 12288)
        for first in range(0, len(rows), 100):
            part = rows[first:first + 100]
            answered = ask(*[call for row in part for call in (start, sr_read(row), sr_read(letters), sr_read(row))])
            self.assertEqual(answered, [[4096], [1], [0], [0]] * len(part))

    def test_as_it_is(self):
        for letters in CHOSEN:
            self.assert_mended(letters, [letters])

    def test_a_letter_changed(self):
        for letters in CHOSEN:
            rows = letter_changed(letters)
            self.assertEqual(len(rows), 192)
            self.assert_mended(letters, rows)

    def test_a_letter_left_out(self):
        for letters in CHOSEN:
            rows = letter_left_out(letters)
            self.assertEqual((len(rows), len(rows[0])), (64, 63))
            self.assert_mended(letters, rows)

    def test_a_letter_put_in(self):
        for letters in CHOSEN:
            rows = letter_put_in(letters)
            self.assertEqual((len(rows), len(rows[0])), (260, 65))
            self.assert_mended(letters, rows)

    def test_the_load_is_the_strand_s_own(self):
        # One strand alone is the whole file here, so that the bytes tell what it was mended to.
        for load in ([0] * 12, [255] * 12, some_bytes(12, 5)):
            letters = build_strand(0, load)
            for rows in (letter_changed(letters), letter_left_out(letters), letter_put_in(letters)):
                answered = ask(*[call for row in rows for call in (sr_start(1, 0, 12), sr_read(row), sr_bytes(0))])
                self.assertEqual(answered, [[1], [1], [12] + load + [0] * 244] * len(rows))

    def test_the_same_strand_again_and_again(self):
        for number in (0, 4, 9):
            rows = mixed(one_letter_off(STRANDS[number]), number)
            for part in (rows[:400], rows[400:]):
                answered = ask(START, *[sr_read(row) for row in part], sr_lacks())
                self.assertEqual(answered, [[10], [1]] + [[0]] * (len(part) - 1) + [[5]])

    def test_each_strand_of_the_size(self):
        rows = [row for letters in STRANDS for row in some_of(one_letter_off(letters), 37)]
        self.assert_read(START, rows, 1)


class TestNotMended(ReadCase):

    def two_letters_off(self):
        """Rows of 63, 64 and 65 letters with more than one letter off, some of them by chance near a strand."""
        rows = []
        for letters in STRANDS[:4]:
            for once in mixed(one_letter_off(letters)[1:], 3)[:20]:
                rows += mixed([row for row in one_letter_off(once)[1:] if 63 <= len(row) <= 65], 4)[:15]
        return rows

    def test_near_no_right_strand(self):
        lengths = {63: 0, 64: 0, 65: 0}
        refused = []
        for row in self.two_letters_off():
            if right_strands_near(row) == []:
                lengths[len(row)] += 1
                refused.append(row)
        self.assertGreater(min(lengths.values()), 50)
        self.assert_read(START, refused, -74)
        for row in some_of(refused, 60):
            self.assert_refused(row, -74)

    def test_rows_that_come_right_only_at_other_places(self):
        # Each of the two rows by itself is one bit off of one that weighs 0, but no one letter does both.
        letters = STRANDS[3]
        for i in (0, 13, 40, 62):
            for j in (5, 30, 63):
                row = list(letters)
                row[i] = b"GTAC"[b"ACGT".index(row[i])]
                row[j] = b"CATG"[b"ACGT".index(row[j])]
                self.assertEqual(right_strands_near(row), [])
                self.assert_refused(row, -74)

    def test_two_letters_put_where_all_are_a(self):
        # Two ones that weigh 1 to 63 are mended by taking away a one at that place, which isn't there;
        # two that weigh 64 to 126 by a one at the place that lacks to 128, unless it's there already.
        for first in (1, 2, 5, 31, 32, 42):
            for second in range(first + 1, 65):
                row = [71 if place in (first, second) else 65 for place in range(1, 65)]
                near = right_strands_near(row)
                mendable = first + second >= 64 and 128 - first - second not in (first, second)
                self.assertEqual(len(near), 1 if mendable else 0, (first, second))
                fitting = mendable and read_strand(near[0])[0] < 10 and read_strand(near[0])[2] == "00"
                self.assert_read(START, [row], 1 if fitting else -74)

    def test_a_last_carried_bit(self):
        for last_bits in ("10", "01", "11"):
            letters = build_strand(3, read_strand(STRANDS[3])[1], last_bits)
            self.assertEqual(right_strands_near(letters), [tuple(letters)])
            self.assert_read(START, one_letter_off(letters), -74)
            for row in some_of(one_letter_off(letters), 50):
                self.assert_refused(row, -74)

    def test_a_last_carried_bit_ahead_of_another_load(self):
        for last_bits in ("10", "01", "11"):
            self.assert_refused(build_strand(4, [9] * 12, last_bits), -74)

    def test_a_number_behind_the_last(self):
        for k, m, n, count in ((3, 2, 50, 10), (1, 0, 1, 1), (64, 32, 16384, 2112), (1, 3, 12288, 4096),
                               (1, 0, 3072, 256), (1, 0, 3061, 256)):
            start = sr_start(k, m, n)
            self.assertEqual(ask(start), [[count]])
            self.assert_read(start, one_letter_off(build_strand(count - 1, [5] * 12)), 1)
            self.assert_read(start, one_letter_off(build_strand(count, [5] * 12)), -74)
            beyond = [count + 1, 4096 + count, 61440 + count % 4096, 65535]
            self.assert_read(start, [build_strand(number, [5] * 12) for number in beyond], -74)

    def test_a_number_behind_the_last_changes_nothing(self):
        for number in (10, 11, 255, 256, 4096, 65535):
            for row in some_of(one_letter_off(build_strand(number, read_strand(STRANDS[0])[1])), 100):
                self.assert_refused(row, -74)

    def test_the_low_byte_is_first(self):
        self.assert_read(sr_start(1, 0, 3072), [build_strand(255, [1] * 12)], 1)
        self.assert_read(sr_start(1, 0, 3072), [build_strand(256, [1] * 12)], -74)
        answered = ask(sr_start(1, 0, 3084), sr_read(build_strand(256, [1] * 12)), sr_read(build_strand(1, [2] * 12)))
        self.assertEqual(answered, [[257], [1], [1]])


class TestAnotherLoad(ReadCase):

    def test_each_byte_of_the_load(self):
        for number in (0, 4, 9):
            calls = [START, sr_read(STRANDS[number])]
            for byte in range(12):
                calls += [sr_read(another_load(number, byte)), sr_read(STRANDS[number])]
            self.assertEqual(ask(*calls), [[10], [1]] + [[-17], [0]] * 12)

    def test_however_it_is_off(self):
        for first in some_of(one_letter_off(STRANDS[4]), 130):
            calls = [sr_read(row) for row in some_of(one_letter_off(another_load(4)), 13)]
            self.assertEqual(ask(START, sr_read(first), *calls), [[10], [1]] + [[-17]] * len(calls))

    def test_the_first_load_stays(self):
        reads = [sr_read(STRANDS[number]) for number in (0, 1, 4, 5, 6, 9)]
        whole = [50] + DATA + [0] * 206
        for number in (0, 1, 4, 5, 6, 9):
            for row in some_of(one_letter_off(another_load(number)), 250):
                answered = ask(START, *reads, sr_bytes(0), sr_read(row), sr_bytes(0), sr_read(STRANDS[number]),
                               sr_read(row), sr_lacks(), sr_bytes(0))
                self.assertEqual(answered[7:], [whole, [-17], whole, [0], [-17], [0], whole])

    def test_it_stays_where_strands_are_lacking(self):
        answered = ask(START, sr_read(STRANDS[4]), sr_read(another_load(4)), sr_lacks(), sr_read(STRANDS[4]),
                       sr_read(another_load(4, 11)), sr_lacks())
        self.assertEqual(answered, [[10], [1], [-17], [5], [0], [-17], [5]])

    def test_whichever_comes_first_counts(self):
        other = another_load(0)
        load = read_strand(other)[1]
        answered = ask(sr_start(1, 0, 12), sr_read(other), sr_read(STRANDS[0]), sr_read(other), sr_bytes(0))
        self.assertEqual(answered, [[1], [1], [-17], [0], [12] + load + [0] * 244])

    def test_the_same_load_in_a_strand_of_another_number(self):
        load = [3] * 12
        answered = ask(START, *[sr_read(build_strand(number, load)) for number in (0, 5, 1, 0, 6, 5)])
        self.assertEqual(answered[1:], [[1], [1], [1], [0], [1], [0]])


if __name__ == "__main__":
    unittest.main()
