"""The list of calls and the list of answers; what stays and what begins anew."""

import unittest

from helper import ask, read_strand, sk_start, sk_strand, some_bytes, split_answers, sr_start
from strandstore.reader import Reader
from strandstore.strands import answers

# One of each edge at which a start is refused.
REFUSED_SIZES = [(0, 0, 5), (65, 0, 5), (1, 33, 5), (1, 0, 0), (1, 0, 16385), (5, 12, 14401)]


class TestStarts(unittest.TestCase):

    def test_a_refused_start_of_the_writer_changes_nothing(self):
        data = some_bytes(50, 8)
        questions = [sk_strand(number) for number in range(11)]
        before = ask(sk_start(3, 2, data), *questions)
        self.assertEqual(before[-1], [-2])
        for k, m, n in REFUSED_SIZES:
            with self.subTest(k=k, m=m, n=n):
                after = ask(sk_start(3, 2, data), sk_start(k, m, [1] * n), *questions)
                self.assertEqual(after, [before[0], [-22]] + before[1:])

    def test_a_start_ahead_of_which_one_was_refused(self):
        questions = [sk_strand(number) for number in range(4)]
        alone = ask(sk_start(2, 1, [1, 2, 3]), *questions)
        behind = ask(sk_start(0, 1, [4]), sk_start(2, 1, [1, 2, 3]), *questions)
        self.assertEqual(behind, [[-22]] + alone)

    def test_a_start_of_the_writer_begins_anew(self):
        questions = [sk_strand(number) for number in range(12)]
        for first in ((4, 7, 300), (1, 0, 1), (64, 32, 768)):
            for second in ((2, 3, 40), (3, 1, 10), (1, 1, 1)):
                with self.subTest(first=first, second=second):
                    start = sk_start(second[0], second[1], some_bytes(second[2], 7))
                    earlier = sk_start(first[0], first[1], some_bytes(first[2], 1))
                    behind = ask(earlier, sk_strand(0), start, *questions)
                    self.assertEqual(behind[2:], ask(start, *questions))

    def test_the_same_size_with_other_bytes(self):
        answered = ask(sk_start(2, 1, [1] * 24), sk_start(2, 1, [2] * 24), sk_strand(0), sk_strand(2))
        self.assertEqual([read_strand(answer[1:])[1] for answer in answered[2:]], [[2] * 12] * 2)

    def test_starts_of_the_reader(self):
        answered = ask(sr_start(3, 2, 50), sr_start(0, 2, 50), sr_start(3, 2, 50), sr_start(1, 0, 1))
        self.assertEqual(answered, [[10], [-22], [10], [1]])

    def test_a_refused_start_of_the_reader_changes_nothing(self):
        # No answer tells the reader's size so far, so the reader itself is looked at.
        for k, m, n in REFUSED_SIZES:
            with self.subTest(k=k, m=m, n=n):
                reader = Reader()
                reader.begin(3, 2, 50)
                self.assertEqual(reader.begin(k, m, n), [-22])
                self.assertEqual((reader.size.k, reader.size.m, reader.size.n), (3, 2, 50))
                reader.begin(4, 1, 60)
                self.assertEqual((reader.size.k, reader.size.m, reader.size.n), (4, 1, 60))

    def test_writer_and_reader_do_not_touch_one_another(self):
        data = some_bytes(50, 8)
        writer_calls = [sk_start(3, 2, data), sk_strand(7), sk_start(0, 0, data), sk_strand(4), sk_strand(10),
                        sk_start(1, 1, [5]), sk_strand(1), sk_strand(2)]
        reader_calls = [sr_start(1, 0, 1), sr_start(64, 32, 16384), sr_start(65, 0, 1), sr_start(2, 2, 100),
                        sr_start(1, 0, 0), sr_start(1, 3, 12288), sr_start(3, 2, 50), sr_start(1, 0, 13)]
        mixed = [call for pair in zip(reader_calls, writer_calls, strict=True) for call in pair]
        answered = ask(*mixed)
        self.assertEqual(answered[1::2], ask(*writer_calls))
        self.assertEqual(answered[0::2], [[1], [2112], [-22], [20], [-22], [4096], [10], [2]])


class TestLists(unittest.TestCase):

    def test_how_the_answers_stand(self):
        letters = [65] * 64
        calls = sr_start(0, 0, 0) + sk_start(1, 1, [0]) + sk_strand(0) + sk_strand(2) + sr_start(2, 2, 25)
        self.assertEqual(answers(calls), [1, -22, 1, 2, 65, 0] + letters + [1, -2, 1, 8])

    def test_bytes_that_look_like_calls(self):
        calls = sk_start(1, 0, [2, 1, 0, 1, 1, 0]) + sk_start(70, 0, [1, 0, 1, 0]) + sk_strand(0)
        answered = split_answers(answers(calls))
        self.assertEqual(answered[:2], [[1], [-22]])
        self.assertEqual(read_strand(answered[2][1:])[1], [2, 1, 0, 1, 1, 0] + [0] * 6)

    def test_an_empty_row(self):
        self.assertEqual(answers(sk_start(1, 0, []) + sr_start(1, 0, 1)), [1, -22, 1, 1])

    def test_the_list_handed_in_stays(self):
        calls = sk_start(3, 2, some_bytes(50)) + sk_strand(9) + sk_start(0, 0, []) + sk_strand(10) + sr_start(1, 1, 1)
        copied = list(calls)
        answers(calls)
        self.assertEqual(calls, copied)

    def test_nothing_is_kept_from_one_time_to_the_next(self):
        calls = sk_start(3, 2, some_bytes(50)) + sk_strand(9) + sk_strand(0) + sr_start(1, 1, 1)
        first = answers(calls)
        kept = list(first)
        other = answers(sk_start(2, 9, some_bytes(90, 4)) + sk_strand(9) + sr_start(2, 2, 2))
        second = answers(calls)
        self.assertEqual(second, kept)
        self.assertEqual(first, kept)
        first.clear()
        other.clear()
        self.assertEqual(answers(calls), kept)

    def test_the_numbers_are_whole_numbers(self):
        answered = answers(sk_start(3, 2, some_bytes(50)) + sk_strand(9) + sk_strand(10) + sr_start(1, 1, 1))
        self.assertIs(type(answered), list)
        self.assertEqual({type(number) for number in answered}, {int})

    def test_a_thousand_calls(self):
        calls = [sk_start(64, 32, some_bytes(16384))] + [sk_strand(96 * (i % 22) + 64 + i % 32) for i in range(999)]
        answered = ask(*calls)
        self.assertEqual([len(answer) for answer in answered], [1] + [65] * 999)
        self.assertEqual(ask(*[sr_start(1, 0, 1)] * 1000), [[1]] * 1000)


if __name__ == "__main__":
    unittest.main()
