"""Point 6: the file's bytes, from the strands that were read."""

import unittest

from helper import ask, build_strand, expected_load, file_strands, group_bytes, mixed, some_bytes
from helper import sr_bytes, sr_lacks, sr_read, sr_start
from strandstore.field import Field
from strandstore.reader import Reader


def blocks_of(n):
    return range((n + 255) // 256)


def block_answer(data, block):
    part = list(data[256 * block:256 * block + 256])
    return [len(part)] + part + [0] * (256 - len(part))


class BytesCase(unittest.TestCase):

    def assert_file(self, k, m, data, strands):
        """These strands are read, nothing is lacking, and all blocks are the data's."""
        n = len(data)
        answered = ask(sr_start(k, m, n), *[sr_read(letters) for letters in strands], sr_lacks(),
                       *[sr_bytes(block) for block in blocks_of(n)], sr_bytes(blocks_of(n).stop))
        self.assertEqual(answered[1:1 + len(strands)], [[1]] * len(strands))
        expected = [[0]] + [block_answer(data, block) for block in blocks_of(n)] + [[-22]]
        self.assertEqual(answered[1 + len(strands):], expected)

    def assert_whole_by_places(self, k, m, data, places):
        """The file comes back from each group's strands at these places."""
        strands = file_strands(k, m, data)
        firsts = range(0, len(strands), k + m)
        self.assert_file(k, m, data, [strands[first + place] for first in firsts for place in places])


class TestBlocks(BytesCase):

    def test_how_many_of_the_file_s(self):
        for n in (1, 11, 12, 13, 254, 255, 256, 257, 258, 511, 512, 513, 768, 1000):
            with self.subTest(n=n):
                data = some_bytes(n, n)
                self.assert_file(22, 0, data, file_strands(22, 0, data))

    def test_without_a_number_that_is_0(self):
        for n in (255, 256, 257):
            with self.subTest(n=n):
                self.assert_file(1, 0, [255] * n, file_strands(1, 0, [255] * n))

    def test_the_last_block_and_the_one_behind_it(self):
        for n, last in ((1, 0), (255, 0), (256, 0), (257, 1), (512, 1), (513, 2)):
            strands = file_strands(64, 0, some_bytes(n))
            blocks = [0, last, last + 1, last + 2, 16777215, 16777216, 2147483648, 4294967295]
            answered = ask(sr_start(64, 0, n), *[sr_read(letters) for letters in strands], *map(sr_bytes, blocks))
            expected = [block_answer(some_bytes(n), 0), block_answer(some_bytes(n), last)] + [[-22]] * 6
            self.assertEqual(answered[-8:], expected)

    def test_strands_are_lacking(self):
        for n, last in ((1, 0), (255, 0), (256, 0), (257, 1), (16384, 63)):
            for k, m in ((1, 0), (64, 32), (5, 3)):
                calls = [sr_bytes(block) for block in (0, last, last + 1, last + 2, 16777216, 4294967295)]
                self.assertEqual(ask(sr_start(k, m, n), *calls)[1:], [[-11]] * 2 + [[-22]] * 4)

    def test_strands_are_lacking_in_another_group(self):
        # Block 0 has bytes of the first group alone, and that one is read to the last strand.
        data = some_bytes(600)
        strands = file_strands(25, 2, data)
        calls = [sr_read(letters) for letters in strands[:27] + strands[29:53]]
        answered = ask(sr_start(25, 2, 600), *calls, sr_lacks(), sr_bytes(0), sr_bytes(1), sr_bytes(2), sr_bytes(3),
                       sr_read(strands[28]), sr_bytes(0), sr_bytes(3))
        self.assertEqual(answered[-8:-3], [[1], [-11], [-11], [-11], [-22]])
        self.assertEqual(answered[-3:], [[1], block_answer(data, 0), [-22]])

    def test_a_refusal_changes_nothing(self):
        data = some_bytes(30)
        strands = file_strands(2, 1, data)
        answered = ask(sr_start(2, 1, 30), sr_read(strands[2]), sr_bytes(0), sr_bytes(1), sr_lacks(),
                       sr_read(strands[2]), sr_read(strands[1]), sr_read(strands[3]), sr_bytes(0), sr_bytes(1),
                       sr_lacks(), sr_read(strands[5]), sr_bytes(1), sr_bytes(0), sr_bytes(0))
        self.assertEqual(answered, [[6], [1], [-11], [-22], [3], [0], [1], [1], [-11], [-22], [1], [1], [-22],
                                    block_answer(data, 0), block_answer(data, 0)])

    def test_blocks_in_any_order(self):
        data = some_bytes(1500, 4)
        strands = file_strands(10, 5, data)
        reads = [sr_read(letters) for number, letters in enumerate(strands) if number % 15 >= 5]
        order = [5, 0, 3, 3, 1, 4, 2, 5, 0]
        answered = ask(sr_start(10, 5, 1500), *reads, *map(sr_bytes, order))
        self.assertEqual(answered[-9:], [block_answer(data, block) for block in order])

    def test_0_behind_the_last_byte_whatever_the_loads_have_there(self):
        for n in (1, 5, 11, 12, 13, 23):
            strands = [build_strand(number, [200 + number] * 12) for number in range(2)]
            answered = ask(sr_start(2, 0, n), *map(sr_read, strands), sr_bytes(0))
            self.assertEqual(answered[-1], block_answer(([200] * 12 + [201] * 12)[:n], 0))

    def test_0_behind_the_last_byte_of_a_second_block(self):
        strands = [build_strand(number, [255] * 12) for number in range(64)]
        answered = ask(sr_start(64, 0, 257), *map(sr_read, strands), sr_bytes(0), sr_bytes(1), sr_bytes(2))
        self.assertEqual(answered[-3:], [[256] + [255] * 256, [1, 255] + [0] * 255, [-22]])


class TestWorkedOut(BytesCase):

    def test_from_the_first_k(self):
        for k, m, n in ((3, 2, 36), (3, 2, 100), (64, 32, 768), (10, 20, 300), (1, 1, 40)):
            self.assert_whole_by_places(k, m, some_bytes(n, k), range(k))

    def test_from_the_last_k(self):
        for k, m, n in ((3, 2, 36), (3, 2, 100), (64, 32, 768), (10, 20, 300), (1, 1, 40), (32, 32, 384), (2, 32, 24)):
            self.assert_whole_by_places(k, m, some_bytes(n, k), range(m, k + m))

    def test_from_a_mixture(self):
        for k, m, n in ((3, 2, 36), (3, 2, 100), (64, 32, 768), (10, 20, 300), (1, 3, 40), (32, 32, 384)):
            for seed in range(4):
                self.assert_whole_by_places(k, m, some_bytes(n, k), mixed(range(k + m), seed)[:k])

    def test_with_more_than_k(self):
        for k, m, n in ((3, 2, 36), (3, 5, 100), (64, 32, 768), (10, 20, 300), (1, 3, 40)):
            for more in (1, (m + 1) // 2, m):
                self.assert_whole_by_places(k, m, some_bytes(n, k), mixed(range(k + m), more)[:k + more])

    def test_k_1(self):
        data = some_bytes(30, 1)
        for place in range(33):
            self.assert_whole_by_places(1, 32, data, [place])

    def test_m_0(self):
        for k in (1, 2, 21, 22, 64):
            self.assert_whole_by_places(k, 0, some_bytes(800, k), mixed(range(k), k))

    def test_k_64_m_32_of_several_groups(self):
        for n in (769, 1500, 1536, 4608):
            self.assert_whole_by_places(64, 32, some_bytes(n, n), range(32, 96))

    def test_each_k(self):
        for k in range(1, 65):
            m = min(k, 32)
            self.assert_whole_by_places(k, m, some_bytes(12 * k, k), mixed(range(k + m), k)[:k])

    def test_a_last_group_that_the_bytes_do_not_fill(self):
        for n in (37, 38, 47, 48, 49, 59, 60, 61, 71, 72, 73):
            for places in ([0, 1, 2], [2, 3, 4], [0, 3, 4], [1, 4, 2]):
                self.assert_whole_by_places(3, 2, some_bytes(n, n), places)

    def test_strands_not_made_by_the_writer(self):
        data = some_bytes(200, 6)
        for places in ([0, 1, 2, 3, 4], [2, 3, 4, 5, 6], [5, 0, 6, 3, 1], [6, 5, 4, 3, 2, 1]):
            numbers = [7 * group + place for group in range(4) for place in places]
            strands = [build_strand(number, expected_load(5, 2, data, number)) for number in numbers]
            self.assert_file(5, 2, data, strands)


class TestLoadsThatDoNotBelongTogether(BytesCase):
    """Of more than k strands, the k with the lowest places count."""

    def expected_bytes(self, k, m, n, loads):
        """loads: by the strands' numbers."""
        whole = []
        for first in range(0, -(-n // (12 * k)) * (k + m), k + m):
            group = {number - first: loads[number] for number in loads if first <= number < first + k + m}
            whole += group_bytes(k, group)
        return whole[:n]

    def assert_lowest_count(self, k, m, n, numbers):
        loads = {number: some_bytes(12, 17 * number + 1) for number in numbers}
        strands = [build_strand(number, loads[number]) for number in numbers]
        self.assert_file(k, m, self.expected_bytes(k, m, n, loads), strands)

    def test_by_hand(self):
        # k = 1: the load at the lowest place is the file's.
        loads = [[7] * 12, [8] * 12, [9] * 12]
        strands = [build_strand(number, load) for number, load in enumerate(loads)]
        answered = ask(sr_start(1, 2, 12), sr_read(strands[2]), sr_bytes(0), sr_read(strands[1]), sr_bytes(0),
                       sr_read(strands[0]), sr_bytes(0))
        self.assertEqual(answered[2::2], [block_answer(load, 0) for load in reversed(loads)])

    def test_a_line_by_hand(self):
        # 1 at place 2 and 1 at place 3 is 1 all along; 0 at place 0 takes the place of the one at 3.
        strands = {number: build_strand(number, [value] * 12) for number, value in ((0, 0), (2, 1), (3, 1))}
        answered = ask(sr_start(2, 2, 24), sr_read(strands[3]), sr_read(strands[2]), sr_bytes(0),
                       sr_read(strands[0]), sr_bytes(0))
        # Through 0 at 0 and 1 at 2 it's x / 2, at place 1 the number that times 2 is 1: 141.
        self.assertEqual(answered[3], block_answer([1] * 24, 0))
        self.assertEqual(answered[5], block_answer([0] * 12 + [141] * 12, 0))

    def test_all_of_one_group(self):
        for k, m in ((1, 1), (1, 32), (2, 3), (3, 2), (5, 9), (32, 32), (64, 32)):
            for seed in range(2):
                self.assert_lowest_count(k, m, 12 * k, mixed(range(k + m), seed))

    def test_without_the_lowest(self):
        for k, m, first in ((2, 5, 1), (2, 5, 3), (5, 9, 2), (5, 9, 7), (30, 32, 15), (1, 32, 31)):
            self.assert_lowest_count(k, m, 12 * k, mixed(range(first, k + m), first))

    def test_several_groups(self):
        for seed in range(4):
            numbers = [8 * group + place for group in range(5) for place in mixed(range(8), seed + group)[:3 + group]]
            self.assert_lowest_count(3, 5, 170, mixed(numbers, seed))

    def test_after_each_strand(self):
        # The bytes are asked for between the reads, so that they must be worked out anew.
        k, m, n = 4, 6, 70
        loads = {}
        calls = [sr_start(k, m, n)]
        expected = []
        for number in mixed(range(20), 5):
            loads[number] = some_bytes(12, 31 * number + 2)
            calls += [sr_read(build_strand(number, loads[number])), sr_bytes(0)]
            groups = [number // 10 for number in loads]
            if min(groups.count(0), groups.count(1)) < k:
                expected.append([-11])
            else:
                expected.append(block_answer(self.expected_bytes(k, m, n, loads), 0))
        self.assertEqual(ask(*calls)[2::2], expected)
        self.assertGreater(len(set(map(tuple, expected))), 5)


class TestLargestFile(unittest.TestCase):
    """16384 bytes need more strands than a list of calls can hold, so the reader itself is asked."""

    def assert_whole(self, k, m, strands):
        data = some_bytes(16384, 3)
        reader = Reader(Field())
        reader.begin(k, m, 16384)
        for letters in strands(file_strands(k, m, data)):
            self.assertEqual(reader.read(letters), [1])
        self.assertEqual(reader.lacks(), [0])
        self.assertEqual([reader.block(block) for block in range(64)], [block_answer(data, b) for b in range(64)])
        self.assertEqual([reader.block(64), reader.block(4294967295)], [[-22], [-22]])

    def test_k_1(self):
        self.assert_whole(1, 0, lambda strands: mixed(strands, 1))

    def test_k_64_m_32(self):
        self.assert_whole(64, 32, lambda strands: [letters for i, letters in enumerate(strands) if i % 96 >= 32])

    def test_k_5_m_3(self):
        self.assert_whole(5, 3, lambda strands: mixed([letters for i, letters in enumerate(strands) if i % 3], 2) +
                          strands[::3])


if __name__ == "__main__":
    unittest.main()
