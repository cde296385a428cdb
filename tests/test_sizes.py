"""Points 1 and 3: which sizes are refused, and how many strands there are."""

import unittest

from helper import ask, sk_start, some_bytes, sr_start

MOST = 4294967295

# k, m, n, what is answered.
SIZES = [
    # k
    (0, 0, 1, -22),
    (0, 1, 1, -22),
    (0, 32, 16384, -22),
    (1, 0, 1, 1),
    (2, 0, 1, 2),
    (63, 0, 1, 63),
    (64, 0, 1, 64),
    (65, 0, 1, -22),
    (65, 32, 16384, -22),
    (256, 0, 1, -22),
    (MOST, 0, 1, -22),
    # m
    (1, 1, 1, 2),
    (1, 31, 1, 32),
    (1, 32, 1, 33),
    (1, 33, 1, -22),
    (64, 32, 1, 96),
    (64, 33, 1, -22),
    (1, 256, 1, -22),
    (1, MOST, 1, -22),
    # k and m whose sum looks small in 32 bits
    (MOST, 1, 1, -22),
    (MOST, 2, 1, -22),
    (1, MOST - 1, 1, -22),
    (MOST, MOST, 1, -22),
    (2147483648, 2147483648, 1, -22),
    # n
    (1, 0, 0, -22),
    (64, 32, 0, -22),
    (64, 32, 16384, 2112),
    (64, 32, 16385, -22),
    (64, 32, 17000, -22),
    (1, 0, 16384, 1366),
    (1, 0, 16385, -22),
    (64, 0, 16384, 1408),
    # as many groups as the bytes need
    (1, 0, 12, 1),
    (1, 0, 13, 2),
    (1, 0, 24, 2),
    (1, 0, 25, 3),
    (3, 2, 36, 5),
    (3, 2, 37, 10),
    (64, 32, 768, 96),
    (64, 32, 769, 192),
    # strands in all
    (1, 3, 12276, 4092),
    (1, 3, 12277, 4096),
    (1, 3, 12288, 4096),
    (1, 3, 12289, -22),
    (2, 30, 3072, 4096),
    (2, 30, 3073, -22),
    # 241 groups of 17 strands are 4097, the next more than 4096
    (5, 12, 14400, 4080),
    (5, 12, 14401, -22),
    (5, 12, 14460, -22),
    (1, 1, 16384, 2732),
    (1, 2, 16380, 4095),
    (1, 2, 16381, -22),
    (1, 32, 1488, 4092),
    (1, 32, 1489, -22),
    # several of them off
    (0, 0, 0, -22),
    (65, 33, 16385, -22),
    (MOST, MOST, 0, -22),
]

# Only a number can be this large, not a row of bytes.
LARGE_SIZES = [
    (1, 0, 17001, -22),
    (1, 0, 65536, -22),
    (1, 0, 65537, -22),
    (64, 32, 2147483648, -22),
    (1, 0, MOST, -22),
    (64, 32, MOST, -22),
    (0, 0, MOST, -22),
    (MOST, MOST, MOST, -22),
]


class TestSizes(unittest.TestCase):

    def test_writer(self):
        for k, m, n, answer in SIZES:
            with self.subTest(k=k, m=m, n=n):
                self.assertEqual(ask(sk_start(k, m, some_bytes(n))), [[answer]])

    def test_reader(self):
        for k, m, n, answer in SIZES + LARGE_SIZES:
            with self.subTest(k=k, m=m, n=n):
                self.assertEqual(ask(sr_start(k, m, n)), [[answer]])

    def test_every_k_and_m_of_one_byte(self):
        calls = []
        expected = []
        for k in range(0, 67):
            for m in (0, 1, 16, 31, 32, 33, 34):
                calls.append(sr_start(k, m, 1))
                expected.append([k + m] if 1 <= k <= 64 and m <= 32 else [-22])
        self.assertEqual(ask(*calls), expected)


if __name__ == "__main__":
    unittest.main()
