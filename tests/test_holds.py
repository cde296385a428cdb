"""What holds over all calls: mended, any k of them, back again, in whichever order."""

import itertools
import unittest

from helper import PlainReader, ask, build_strand, draws, file_strands, mixed, one_letter_off, read_strand
from helper import right_strands_near, some_bytes, sr_bytes, sr_lacks, sr_read, sr_start

# k, m, n: with several groups, a last one that's not filled, no strands beside those with bytes.
SIZES = [(1, 0, 1), (1, 0, 40), (1, 2, 30), (2, 1, 48), (3, 2, 50), (5, 4, 61), (7, 0, 90), (4, 12, 300), (22, 3, 257),
         (64, 32, 700)]


def off_somehow(letters, seed):
    """The strand as it is or one letter off, another way for each seed."""
    rows = one_letter_off(letters)
    return rows[next(draws(seed)) % len(rows)]


def all_blocks(n):
    return [sr_bytes(block) for block in range((n + 255) // 256)]


def whole_file(answered):
    """The file's bytes from the answers of its blocks."""
    return [byte for answer in answered for byte in answer[1:1 + answer[0]]]


class TestMended(unittest.TestCase):

    def test_nothing_is_one_letter_off_of_two_strands(self):
        for letters in (build_strand(0, [0] * 12), build_strand(9, some_bytes(12, 9)), build_strand(77, [255] * 12),
                        build_strand(300, some_bytes(12, 4), "11")):
            for row in one_letter_off(letters):
                self.assertEqual(right_strands_near(row), [tuple(letters)])

    def test_mended_to_what_it_was(self):
        # One strand is the whole file of each reader, so that its bytes are the strand's load.
        for seed in range(40):
            load = [draw % 256 for draw in itertools.islice(draws(seed), 12)]
            rows = mixed(one_letter_off(build_strand(0, load)), seed)[:60]
            answered = ask(*[call for row in rows for call in (sr_start(1, 0, 12), sr_read(row), sr_bytes(0))])
            self.assertEqual(answered, [[1], [1], [12] + load + [0] * 244] * 60)


class TestAnyKOfThem(unittest.TestCase):

    def test_each_choice(self):
        for k, m in ((1, 0), (1, 3), (2, 0), (2, 3), (3, 1), (3, 3), (5, 2)):
            data = some_bytes(12 * k, k + m)
            strands = file_strands(k, m, data)
            for places in itertools.combinations(range(k + m), k):
                reads = [sr_read(strands[place]) for place in places]
                answered = ask(sr_start(k, m, 12 * k), *reads, *all_blocks(12 * k))
                self.assertEqual(whole_file(answered[1 + k:]), data, (k, m, places))

    def test_each_choice_of_the_strand_that_is_lacking(self):
        data = some_bytes(384, 32)
        strands = file_strands(32, 1, data)
        for lacking in range(33):
            reads = [sr_read(letters) for place, letters in enumerate(strands) if place != lacking]
            self.assertEqual(whole_file(ask(sr_start(32, 1, 384), *reads, *all_blocks(384))[33:]), data)

    def test_large_groups(self):
        data = some_bytes(768, 1)
        strands = file_strands(64, 32, data)
        for seed in range(12):
            reads = [sr_read(letters) for letters in mixed(strands, seed)[:64]]
            self.assertEqual(whole_file(ask(sr_start(64, 32, 768), *reads, *all_blocks(768))[65:]), data)


class TestBackAgain(unittest.TestCase):

    def test_read_till_nothing_is_lacking(self):
        for k, m, n in SIZES:
            for seed in range(5):
                data = some_bytes(n, 7 * n + seed)
                strands = file_strands(k, m, data)
                order = mixed([number for number in range(len(strands)) for twice in range(2)], seed)
                reads = [sr_read(off_somehow(strands[number], 1000 * seed + i)) for i, number in enumerate(order)]
                answered = ask(sr_start(k, m, n), *reads, sr_lacks(), *all_blocks(n))
                expected = [[0] if number in order[:i] else [1] for i, number in enumerate(order)]
                self.assertEqual(answered[1:2 + len(order)], expected + [[0]])
                self.assertEqual(whole_file(answered[2 + len(order):]), data)

    def test_as_soon_as_nothing_is_lacking(self):
        for k, m, n in SIZES:
            data = some_bytes(n, n)
            strands = file_strands(k, m, data)
            calls = [sr_start(k, m, n)]
            for i, letters in enumerate(mixed(strands, n)):
                calls += [sr_read(off_somehow(letters, i)), sr_lacks(), sr_bytes(0)]
            answered = ask(*calls)
            for lacking, block in zip(answered[2::3], answered[3::3], strict=True):
                expected = [-11] if lacking[0] > 0 else [min(n, 256)] + (data + [0] * 256)[:256]
                self.assertEqual(block, expected, (k, m, n))
            self.assertEqual(answered[-2], [0])


class TestInWhicheverOrder(unittest.TestCase):

    def assert_alike(self, k, m, n, strands, numbers):
        """The same strands in several orders, each off in another way: the same answers afterwards."""
        questions = [sr_lacks()] + all_blocks(n) + [sr_read(letters) for letters in strands] + [sr_lacks(), sr_bytes(0)]
        shown = []
        for seed in range(5):
            reads = [sr_read(off_somehow(strands[number], seed + number)) for number in mixed(numbers, seed)]
            answered = ask(sr_start(k, m, n), *reads, *questions)
            self.assertEqual(answered[1:1 + len(reads)], [[1]] * len(reads))
            shown.append(answered[1 + len(reads):])
        self.assertEqual(shown, [shown[0]] * 5)

    def test_a_file_s_strands(self):
        for k, m, n in SIZES:
            strands = file_strands(k, m, some_bytes(n, n))
            for part in (len(strands) // 3, len(strands) // 2, len(strands) - 1, len(strands)):
                self.assert_alike(k, m, n, strands, mixed(range(len(strands)), part)[:part])

    def test_loads_that_do_not_belong_together(self):
        for k, m, n in SIZES:
            count = ask(sr_start(k, m, n))[0][0]
            strands = [build_strand(number, some_bytes(12, 5 * number)) for number in range(count)]
            for part in (count // 2, count):
                self.assert_alike(k, m, n, strands, mixed(range(count), part)[:part])

    def test_questions_between_the_reads_change_nothing(self):
        strands = [build_strand(number, some_bytes(12, 5 * number)) for number in range(10)]
        reads = [sr_read(letters) for letters in mixed(strands, 1)]
        asking = [call for read in reads for call in (read, sr_lacks(), sr_bytes(0), sr_bytes(9))]
        last = [sr_lacks(), sr_bytes(0)]
        self.assertEqual(ask(sr_start(3, 2, 50), *asking, *last)[-2:], ask(sr_start(3, 2, 50), *reads, *last)[-2:])


class TestBesideAPlainReader(unittest.TestCase):
    """Calls of all kinds, beside a reader that works all out by trying."""

    def some_row(self, drawn, strands):
        """A strand: mostly the file's and at most one letter off, sometimes anything else."""
        letters = strands[next(drawn) % len(strands)]
        number, load, last_bits = read_strand(letters)
        kind = next(drawn) % 10
        if kind == 0:
            letters = build_strand(number, [byte ^ 5 for byte in load])
        if kind == 1:
            letters = build_strand(number, load, ("01", "10", "11")[next(drawn) % 3])
        if kind == 2:
            letters = build_strand(len(strands) + next(drawn) % 3, load)
        letters = off_somehow(letters, next(drawn))
        if kind == 3:
            letters = off_somehow(letters, next(drawn))
        if kind == 4 and next(drawn) % 2 == 0:
            letters = letters[:9] + [next(drawn) % 256] + letters[10:]
        return letters

    def some_call(self, drawn, reader, strands):
        """A call and the plain reader's answer."""
        kind = next(drawn) % 20
        if kind < 13:
            letters = self.some_row(drawn, strands)
            return sr_read(letters), reader.take(letters)
        if kind < 16:
            return sr_lacks(), reader.lacks()
        if kind < 19:
            block = next(drawn) % 3
            return sr_bytes(block), reader.block(block)
        return sr_start(0, 0, 5), reader.start(0, 0, 5)

    def test_calls_of_all_kinds(self):
        told = set()
        sizes = [(1, 1, 12), (2, 1, 40), (3, 2, 36), (4, 3, 50), (2, 6, 24), (11, 5, 260)]
        for seed, (k, m, n) in enumerate(sizes * 2):
            drawn = draws(seed)
            strands = file_strands(k, m, some_bytes(n, seed))
            reader = PlainReader()
            calls = [sr_start(k, m, n)]
            expected = [reader.start(k, m, n)]
            for i in range(110):
                call, answer = self.some_call(drawn, reader, strands)
                calls.append(call)
                expected.append(answer)
                told.add((call[0], min(answer[0], 1)))
            self.assertEqual(ask(*calls), expected, (k, m, n))
        self.assertEqual(told, {(2, -22), (3, -22), (3, -74), (3, -17), (3, 0), (3, 1), (4, 0), (4, 1), (5, -22),
                                (5, -11), (5, 1)})


if __name__ == "__main__":
    unittest.main()
