"""Point 5: how many strands are lacking."""

import unittest

from helper import ask, build_strand, file_strands, letter_changed, letter_left_out, letter_put_in, mixed
from helper import some_bytes, sr_bytes, sr_lacks, sr_read, sr_start


def lacks_after_each(start, strands):
    """What sr_lacks answers at the beginning and after each strand."""
    calls = [call for letters in strands for call in (sr_read(letters), sr_lacks())]
    return [answer[0] for answer in ask(start, sr_lacks(), *calls)[1::2]]


class TestLacks(unittest.TestCase):

    def test_before_anything_is_read(self):
        for k, m, n, lacking in ((1, 0, 1, 1), (1, 0, 12, 1), (1, 0, 13, 2), (64, 32, 1, 64), (64, 0, 768, 64),
                                 (64, 32, 769, 128), (3, 2, 36, 3), (3, 2, 37, 6), (64, 32, 16384, 1408),
                                 (1, 0, 16384, 1366), (1, 3, 12288, 1024), (2, 30, 3072, 256)):
            with self.subTest(k=k, m=m, n=n):
                self.assertEqual(ask(sr_start(k, m, n), sr_lacks(), sr_lacks())[1:], [[lacking]] * 2)

    def test_one_group(self):
        strands = file_strands(3, 2, some_bytes(36))
        for order in ((0, 1, 2, 3, 4), (4, 3, 2, 1, 0), (3, 0, 4, 1, 2)):
            lacking = lacks_after_each(sr_start(3, 2, 36), [strands[number] for number in order])
            self.assertEqual(lacking, [3, 2, 1, 0, 0, 0])

    def test_one_strand(self):
        self.assertEqual(lacks_after_each(sr_start(1, 0, 1), file_strands(1, 0, [5])), [1, 0])

    def test_m_0(self):
        strands = mixed(file_strands(7, 0, some_bytes(200)), 2)
        self.assertEqual(lacks_after_each(sr_start(7, 0, 200), strands), list(range(21, -1, -1)))

    def test_k_64_m_32(self):
        strands = mixed(file_strands(64, 32, some_bytes(768)), 3)
        self.assertEqual(lacks_after_each(sr_start(64, 32, 768), strands), list(range(64, -1, -1)) + [0] * 32)

    def test_one_group_does_not_make_up_for_another(self):
        strands = file_strands(3, 2, some_bytes(100))
        order = [0, 1, 2, 3, 4, 14, 13, 5, 12, 11, 10, 9, 7]
        lacking = lacks_after_each(sr_start(3, 2, 100), [strands[number] for number in order])
        self.assertEqual(lacking, [9, 8, 7, 6, 6, 6, 5, 4, 3, 2, 2, 2, 1, 0])

    def test_the_edges_of_the_groups(self):
        # The last of a group and the first of the next are in two groups.
        strands = file_strands(2, 1, some_bytes(48))
        for order, lacking in (([2, 3], [4, 3, 2]), ([0, 1, 2], [4, 3, 2, 2]), ([3, 4, 5], [4, 3, 2, 2]),
                               ([1, 2, 3], [4, 3, 2, 1])):
            self.assertEqual(lacks_after_each(sr_start(2, 1, 48), [strands[number] for number in order]), lacking)

    def test_any_order_of_several_groups(self):
        strands = file_strands(4, 3, some_bytes(140))
        for seed in range(8):
            order = mixed(range(21), seed)
            expected = []
            for end in range(22):
                read = [number // 7 for number in order[:end]]
                expected.append(sum(max(0, 4 - read.count(group)) for group in range(3)))
            lacking = lacks_after_each(sr_start(4, 3, 140), [strands[number] for number in order])
            self.assertEqual(lacking, expected)

    def test_the_same_strand_counts_once(self):
        letters = file_strands(3, 2, some_bytes(36))[3]
        off = [letter_changed(letters)[50], letter_left_out(letters)[9], letter_put_in(letters)[200], letters]
        self.assertEqual(lacks_after_each(sr_start(3, 2, 36), [letters] * 5), [3, 2, 2, 2, 2, 2])
        self.assertEqual(lacks_after_each(sr_start(3, 2, 36), off), [3, 2, 2, 2, 2])

    def test_what_is_refused_does_not_count(self):
        first = build_strand(0, [1] * 12)
        refused = [[], [65] * 62, [66] * 64, build_strand(5, [1] * 12), build_strand(1, [1] * 12, "10"),
                   build_strand(0, [2] * 12), first[:20] + first[22:] + [84]]
        answered = ask(sr_start(3, 2, 36), sr_read(first), *[sr_read(row) for row in refused], sr_lacks())
        self.assertEqual(answered[2:], [[-22], [-22], [-22], [-74], [-74], [-17], [-74], [2]])

    def test_the_bytes_take_nothing_away(self):
        letters = file_strands(1, 1, [9])[1]
        answered = ask(sr_start(1, 1, 1), sr_bytes(0), sr_lacks(), sr_read(letters), sr_bytes(0), sr_lacks(),
                       sr_bytes(0), sr_lacks())
        whole = [1, 9] + [0] * 255
        self.assertEqual(answered, [[2], [-11], [1], [1], whole, [0], whole, [0]])


if __name__ == "__main__":
    unittest.main()
