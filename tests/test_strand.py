"""Point 2: the letters of a strand."""

import unittest

from helper import ask, expected_load, letters_to_rows, newton_value, read_strand, sk_start, sk_strand
from helper import some_bytes, times, weighs


def strands(k, m, data, numbers):
    """What sk_strand answers for each of the numbers."""
    return ask(sk_start(k, m, data), *[sk_strand(number) for number in numbers])[1:]


def loads(k, m, data, numbers):
    return [read_strand(answer[1:])[1] for answer in strands(k, m, data, numbers)]


class TestByHand(unittest.TestCase):
    """Strands worked out on paper, with one carried bit each."""

    def assert_letters(self, data, letter, places):
        letters = [ord(letter) if place in places else 65 for place in range(1, 65)]
        self.assertEqual(strands(1, 0, data, [0]), [[0] + letters])

    def test_no_bit(self):
        self.assert_letters([0], "A", [])

    def test_the_first_bit_of_the_load(self):
        # The 17th carried bit: place 22; 106 lacks to 128.
        self.assert_letters([0x80], "G", [2, 8, 22, 32, 64])

    def test_the_upper_row_s_last_bit(self):
        # The 56th carried bit: place 62; 66 lacks.
        self.assert_letters([0, 0, 0, 0, 0x01], "G", [2, 62, 64])

    def test_the_lower_row_s_first_bit(self):
        # Place 3; 125 lacks.
        self.assert_letters([0, 0, 0, 0, 0, 0x80], "C", [1, 3, 4, 8, 16, 32, 64])

    def test_the_lower_row_s_last_bit(self):
        self.assert_letters([0] * 11 + [0x01], "C", [2, 62, 64])

    def test_both_rows(self):
        data = [0, 0, 0, 0, 0x01] + [0] * 6 + [0x01]
        self.assert_letters(data, "T", [2, 62, 64])

    def test_strand_1(self):
        # The low byte's lowest bit is the 8th carried one: place 12; 116 lacks.
        letters = [71 if place in (4, 12, 16, 32, 64) else 65 for place in range(1, 65)]
        self.assertEqual(strands(1, 1, [0], [1]), [[0] + letters])

    def test_strand_256(self):
        # The high byte's lowest bit is the 16th carried one: place 21; 107 lacks.
        letters = [71 if place in (1, 2, 8, 21, 32, 64) else 65 for place in range(1, 65)]
        self.assertEqual(strands(1, 0, [0] * 3084, [256]), [[0] + letters])

    def test_a_row_that_weighs_0_by_itself(self):
        # The load's first byte has the places 22 to 29, the second 30, 31 and 33 to 38, the third those
        # from 39 on: 22 + 29 + 38 + 39 is 128, and nothing lacks.
        row = letters_to_rows(strands(1, 0, [0x81, 0x01, 0x80], [0])[0][1:])[0]
        places = [place for place, bit in enumerate(row, start=1) if bit == "1"]
        self.assertEqual(places, [22, 29, 38, 39])


class TestLoadsByHand(unittest.TestCase):

    def test_with_k_1_all_loads_are_alike(self):
        data = some_bytes(12, 5)
        self.assertEqual(loads(1, 32, data, range(33)), [data] * 33)

    def test_a_line(self):
        # 0 at place 0 and 0x57 at place 1: at place 0x13 it is 0x57 times 0x13, which is 0xFE.
        data = [0] * 12 + [0x57] * 12
        self.assertEqual(loads(2, 32, data, [0x02, 0x04, 0x08, 0x10, 0x13]),
                         [[value] * 12 for value in (0xAE, 0x47, 0x8E, 0x07, 0xFE)])

    def test_a_line_through_alike_bytes_is_level(self):
        self.assertEqual(loads(2, 3, [9] * 24, range(5)), [[9] * 12] * 5)

    def test_the_reckoning_of_these_tests(self):
        self.assertEqual([times(0x57, 0x83), times(0x57, 0x13)], [0xC1, 0xFE])
        values = [times(times(p, p), 0x35) ^ times(p, 0xA7) ^ 0x11 for p in range(96)]
        self.assertEqual([newton_value(values[:3], p) for p in range(96)], values)
        self.assertEqual([newton_value(values[:64], p) for p in range(96)], values)


class TestNoSuchStrand(unittest.TestCase):

    def assert_last(self, k, m, n, count):
        answered = ask(sk_start(k, m, some_bytes(n)), sk_strand(count - 1), sk_strand(count),
                       sk_strand(count + 1), sk_strand(4294967295), sk_strand(0))
        self.assertEqual(answered[0], [count])
        self.assertEqual(answered[2:5], [[-2], [-2], [-2]])
        for number, answer in ((count - 1, answered[1]), (0, answered[5])):
            self.assertEqual((len(answer), answer[0]), (65, 0))
            self.assertEqual(read_strand(answer[1:])[0], number)

    def test_one_strand(self):
        self.assert_last(1, 0, 1, 1)

    def test_one_group(self):
        self.assert_last(3, 2, 36, 5)

    def test_several_groups(self):
        self.assert_last(64, 32, 16384, 2112)

    def test_4096_strands(self):
        self.assert_last(1, 3, 12288, 4096)

    def test_a_number_that_looks_small_in_fewer_bits(self):
        calls = [sk_strand(number) for number in (256, 65536, 2147483648, 4294967040)]
        self.assertEqual(ask(sk_start(1, 0, [7]), *calls)[1:], [[-2]] * 4)


class TestStrands(unittest.TestCase):

    def assert_strands(self, k, m, data, numbers):
        for number, answer in zip(numbers, strands(k, m, data, numbers), strict=True):
            with self.subTest(k=k, m=m, n=len(data), number=number):
                self.assertEqual((len(answer), answer[0]), (65, 0))
                letters = answer[1:]
                self.assertLessEqual(set(letters), {65, 67, 71, 84})
                self.assertEqual([weighs(row) for row in letters_to_rows(letters)], [0, 0])
                self.assertEqual(read_strand(letters), (number, expected_load(k, m, data, number), "00"))

    def test_one_group_filled(self):
        self.assert_strands(3, 2, some_bytes(36), range(5))

    def test_one_byte(self):
        self.assert_strands(1, 0, [255], range(1))
        self.assert_strands(4, 3, [255], range(7))

    def test_all_ones(self):
        self.assert_strands(5, 4, [255] * 60, range(9))

    def test_no_strands_but_those_with_bytes(self):
        self.assert_strands(7, 0, some_bytes(200, 9), range(21))

    def test_k_1(self):
        self.assert_strands(1, 2, some_bytes(30, 2), range(9))

    def test_k_1_m_32(self):
        self.assert_strands(1, 32, some_bytes(12, 4), range(33))

    def test_k_64_m_32(self):
        self.assert_strands(64, 32, some_bytes(768, 1), range(96))

    def test_k_64_m_32_in_the_last_of_many_groups(self):
        self.assert_strands(64, 32, some_bytes(16384, 3), [0, 63, 64, 95, 96, 160, 191, 2016, 2037, 2038, 2080, 2111])

    def test_each_k_at_its_first_and_last_further_place(self):
        for k in range(1, 65, 3):
            self.assert_strands(k, 32, some_bytes(12 * k, k), [0, k - 1, k, k + 31])

    def test_a_last_group_that_is_not_filled(self):
        # At 37 to 48 bytes whole loads of the second group are 0; at 72 it's filled.
        for n in (37, 47, 48, 49, 60, 71, 72):
            self.assert_strands(3, 2, some_bytes(n, n), range(10))

    def test_each_length_of_one_group(self):
        for n in range(1, 25):
            self.assert_strands(2, 1, [200 + i for i in range(n)], range(3))

    def test_numbers_above_255(self):
        data = some_bytes(12288, 6)
        self.assert_strands(1, 3, data, [254, 255, 256, 257, 511, 512, 513, 1023, 1024, 2048, 4094, 4095])
        self.assert_strands(5, 3, data, [255, 256, 259, 260, 261, 1000, 1637, 1638, 1639])

    def test_the_order_of_questions_does_not_matter(self):
        data = some_bytes(100)
        numbers = [9, 0, 4, 9, 9, 1, 0]
        straight = strands(5, 2, data, range(10))
        self.assertEqual(strands(5, 2, data, numbers), [straight[number] for number in numbers])


if __name__ == "__main__":
    unittest.main()
