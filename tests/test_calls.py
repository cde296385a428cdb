"""The list of calls and the list of answers; what stays and what begins anew."""

import time
import unittest

from helper import ask, build_strand, file_strands, read_strand, sk_start, sk_strand, some_bytes, split_answers
from helper import sr_bytes, sr_lacks, sr_read, sr_start
from strandstore.strands import answers

# One of each edge at which a start is refused.
REFUSED_SIZES = [(0, 0, 5), (65, 0, 5), (1, 33, 5), (1, 0, 0), (1, 0, 16385), (5, 12, 14401)]


class TestStarts(unittest.TestCase):

    def test_a_refused_start_of_the_writer_changes_nothing(self):
        data = some_bytes(50, 8)
        questions = [sk_strand(number) for number in range(11)]
        before = ask(sk_start(3, 2, data), *questions)
        self.assertEqual(before[-1], [-2])
        for k, m, n in REFUSED_SIZES:
            with self.subTest(k=k, m=m, n=n):
                after = ask(sk_start(3, 2, data), sk_start(k, m, [1] * n), *questions)
                self.assertEqual(after, [before[0], [-22]] + before[1:])

    def test_a_start_ahead_of_which_one_was_refused(self):
        questions = [sk_strand(number) for number in range(4)]
        alone = ask(sk_start(2, 1, [1, 2, 3]), *questions)
        behind = ask(sk_start(0, 1, [4]), sk_start(2, 1, [1, 2, 3]), *questions)
        self.assertEqual(behind, [[-22]] + alone)

    def test_a_start_of_the_writer_begins_anew(self):
        questions = [sk_strand(number) for number in range(12)]
        for first in ((4, 7, 300), (1, 0, 1), (64, 32, 768)):
            for second in ((2, 3, 40), (3, 1, 10), (1, 1, 1)):
                with self.subTest(first=first, second=second):
                    start = sk_start(second[0], second[1], some_bytes(second[2], 7))
                    earlier = sk_start(first[0], first[1], some_bytes(first[2], 1))
                    behind = ask(earlier, sk_strand(0), start, *questions)
                    self.assertEqual(behind[2:], ask(start, *questions))

    def test_the_same_size_with_other_bytes(self):
        answered = ask(sk_start(2, 1, [1] * 24), sk_start(2, 1, [2] * 24), sk_strand(0), sk_strand(2))
        self.assertEqual([read_strand(answer[1:])[1] for answer in answered[2:]], [[2] * 12] * 2)

    def test_starts_of_the_reader(self):
        answered = ask(sr_start(3, 2, 50), sr_start(0, 2, 50), sr_start(3, 2, 50), sr_start(1, 0, 1))
        self.assertEqual(answered, [[10], [-22], [10], [1]])

    def test_a_refused_start_of_the_reader_changes_nothing(self):
        data = some_bytes(50, 8)
        strands = file_strands(3, 2, data)
        questions = [sr_lacks(), sr_bytes(0), sr_bytes(1)] + [sr_read(letters) for letters in strands]
        questions += [sr_read(build_strand(10, [0] * 12)), sr_lacks(), sr_bytes(0)]
        for numbers in ([], [4, 1, 9], [0, 3, 4, 9, 8, 5, 6]):
            reads = [sr_read(strands[number]) for number in numbers]
            before = ask(sr_start(3, 2, 50), *reads, *questions)
            self.assertEqual(before[-3:], [[-74], [0], [50] + data + [0] * 206])
            for k, m, n in REFUSED_SIZES:
                with self.subTest(numbers=numbers, k=k, m=m, n=n):
                    after = ask(sr_start(3, 2, 50), *reads, sr_start(k, m, n), *questions)
                    self.assertEqual(after.pop(1 + len(reads)), [-22])
                    self.assertEqual(after, before)

    def test_a_start_of_the_reader_begins_anew(self):
        strands = file_strands(3, 2, some_bytes(36))
        reads = [sr_read(letters) for letters in strands]
        for k, m, n in ((3, 2, 36), (3, 2, 35), (2, 1, 30), (1, 0, 1), (64, 32, 16384)):
            with self.subTest(k=k, m=m, n=n):
                questions = [sr_lacks(), sr_bytes(0)] + reads + [sr_lacks(), sr_bytes(0)]
                alone = ask(sr_start(k, m, n), *questions)
                behind = ask(sr_start(3, 2, 36), *reads, sr_bytes(0), sr_start(k, m, n), *questions)
                self.assertEqual(behind[7:], alone)
                self.assertEqual(alone[2:4], [[-11], [1]])

    def test_the_same_number_with_another_load_behind_a_start(self):
        answered = ask(sr_start(1, 0, 2), sr_read(build_strand(0, [1] * 12)), sr_bytes(0),
                       sr_start(1, 0, 2), sr_bytes(0), sr_read(build_strand(0, [2] * 12)), sr_bytes(0))
        self.assertEqual(answered, [[1], [1], [2, 1, 1] + [0] * 254, [1], [-11], [1], [2, 2, 2] + [0] * 254])

    def test_a_start_of_the_reader_ahead_of_which_one_was_refused(self):
        letters = build_strand(0, [6] * 12)
        answered = ask(sr_start(0, 0, 1), sr_start(1, 0, 12), sr_lacks(), sr_read(letters), sr_bytes(0))
        self.assertEqual(answered, [[-22], [1], [1], [1], [12] + [6] * 12 + [0] * 244])

    def test_writer_and_reader_do_not_touch_one_another(self):
        data = some_bytes(50, 8)
        strands = file_strands(2, 2, some_bytes(40, 3))
        writer_calls = [sk_start(3, 2, data), sk_strand(7), sk_start(0, 0, data), sk_strand(4), sk_strand(10),
                        sk_start(1, 1, [5]), sk_strand(1), sk_strand(2), sk_start(2, 2, some_bytes(40)), sk_strand(6),
                        sk_start(64, 32, data), sk_strand(95), sk_strand(0), sk_strand(96)]
        reader_calls = [sr_start(1, 0, 1), sr_start(2, 2, 40), sr_read(strands[6]), sr_lacks(), sr_read(strands[3]),
                        sr_start(65, 0, 1), sr_read(strands[7]), sr_read(strands[6]), sr_read([65] * 62), sr_bytes(0),
                        sr_read(strands[2]), sr_lacks(), sr_bytes(0), sr_bytes(1)]
        first_reader = [call for pair in zip(reader_calls, writer_calls, strict=True) for call in pair]
        first_writer = [call for pair in zip(writer_calls, reader_calls, strict=True) for call in pair]
        expected = [[1], [8], [1], [3], [1], [-22], [1], [0], [-22], [-11], [1], [0],
                    [40] + some_bytes(40, 3) + [0] * 216, [-22]]
        for calls, reader_place in ((first_reader, 0), (first_writer, 1)):
            answered = ask(*calls)
            self.assertEqual(answered[1 - reader_place::2], ask(*writer_calls))
            self.assertEqual(answered[reader_place::2], expected)

    def test_a_reader_ahead_of_any_writer(self):
        letters = build_strand(0, [6] * 12)
        answered = ask(sr_start(1, 0, 1), sr_read(letters), sk_start(1, 0, [9]), sr_bytes(0), sk_strand(0), sr_lacks())
        self.assertEqual(answered[:4] + answered[5:], [[1], [1], [1], [1, 6] + [0] * 255, [0]])
        self.assertEqual(answered[4], [0] + build_strand(0, [9] + [0] * 11))


class TestLists(unittest.TestCase):

    def setUp(self):
        data = some_bytes(50)
        strands = file_strands(3, 2, data)
        self.calls = sk_start(3, 2, data) + sk_strand(9) + sk_start(0, 0, []) + sk_strand(10) + sr_start(3, 2, 50)
        self.calls += sr_lacks() + sr_bytes(0) + sr_bytes(1) + sr_read([1, 2, 3]) + sr_read(build_strand(10, [1] * 12))
        for number in (9, 4, 0, 6, 3, 7):
            self.calls += sr_read(strands[number][1:]) + sk_strand(number) + sr_read(strands[number] + [65])
        self.calls += sr_lacks() + sr_bytes(0) + sr_read(build_strand(9, [0] * 12)) + sr_start(0, 0, 0)

    def test_how_the_answers_stand(self):
        letters = [65] * 64
        calls = sr_start(0, 0, 0) + sk_start(1, 1, [0]) + sk_strand(0) + sk_strand(2) + sr_start(2, 2, 25)
        self.assertEqual(answers(calls), [1, -22, 1, 2, 65, 0] + letters + [1, -2, 1, 8])

    def test_how_the_reader_s_answers_stand(self):
        letters = build_strand(0, [1, 2, 3] + [0] * 9)
        calls = [2, 1, 0, 3, 4, 5, 0, 5, 1, 3, 0, 3, 64] + letters + [3, 64] + letters
        calls += [3, 2, 65, 65, 4, 5, 0, 3, 64] + [66] * 64 + [5, 1]
        expected = [1, 1, 1, 1, 1, -11, 1, -22, 1, -22, 1, 1, 1, 0, 1, -22, 1, 0, 257, 3, 1, 2, 3] + [0] * 253
        self.assertEqual(answers(calls), expected + [1, -22, 1, -22])

    def test_bytes_that_look_like_calls(self):
        calls = sk_start(1, 0, [2, 1, 0, 1, 1, 0]) + sk_start(70, 0, [1, 0, 1, 0]) + sk_strand(0)
        answered = split_answers(answers(calls))
        self.assertEqual(answered[:2], [[1], [-22]])
        self.assertEqual(read_strand(answered[2][1:])[1], [2, 1, 0, 1, 1, 0] + [0] * 6)

    def test_letters_that_look_like_calls(self):
        for length in (1, 4, 62, 63, 64, 65, 66, 100):
            answered = ask(sr_start(1, 0, 1), sr_read([4] * length), sr_read([2, 1, 0, 1] * 16), sr_lacks())
            self.assertEqual(answered, [[1], [-22], [-22], [1]])

    def test_an_empty_row(self):
        self.assertEqual(answers(sk_start(1, 0, []) + sr_start(1, 0, 1)), [1, -22, 1, 1])
        self.assertEqual(ask(sr_start(1, 0, 1), sr_read([]), sr_lacks()), [[1], [-22], [1]])

    def test_the_list_handed_in_stays(self):
        copied = list(self.calls)
        answers(self.calls)
        self.assertEqual(self.calls, copied)

    def test_nothing_is_kept_from_one_time_to_the_next(self):
        first = answers(self.calls)
        kept = list(first)
        other = answers(sk_start(2, 9, some_bytes(90, 4)) + sk_strand(9) + sr_start(2, 2, 2) +
                        sr_read(build_strand(1, [4] * 12)) + sr_lacks())
        second = answers(self.calls)
        self.assertEqual(second, kept)
        self.assertEqual(first, kept)
        first.clear()
        other.clear()
        self.assertEqual(answers(self.calls), kept)

    def test_the_numbers_are_whole_numbers(self):
        answered = answers(self.calls)
        self.assertIs(type(answered), list)
        self.assertEqual({type(number) for number in answered}, {int})


class TestLongLists(unittest.TestCase):
    """They end within a time that shows nothing is gone through more often than it has to be."""

    def ask_in_time(self, *calls):
        begun = time.process_time()
        answered = ask(*calls)
        self.assertLess(time.process_time() - begun, 20)
        return answered

    def test_a_thousand_strands_written(self):
        calls = [sk_start(64, 32, some_bytes(16384))] + [sk_strand(96 * (i % 22) + 64 + i % 32) for i in range(999)]
        answered = self.ask_in_time(*calls)
        self.assertEqual([len(answer) for answer in answered], [1] + [65] * 999)

    def test_a_thousand_starts(self):
        self.assertEqual(self.ask_in_time(*[sr_start(1, 0, 16384)] * 1000), [[1366]] * 1000)

    def test_a_thousand_calls_of_the_reader_where_strands_are_lacking(self):
        calls = [sr_start(1, 0, 16384)] + [sr_lacks(), sr_bytes(63), sr_bytes(64)] * 333
        self.assertEqual(self.ask_in_time(*calls), [[1366]] + [[1366], [-11], [-22]] * 333)

    def test_30000_numbers_that_are_mended_and_worked_out(self):
        # 448 strands, each with a letter left out and none of the first 32 of a group, then as many
        # blocks as there are numbers left.
        data = some_bytes(5376, 2)
        strands = [letters for i, letters in enumerate(file_strands(64, 32, data)) if i % 96 >= 32]
        reads = [sr_read(letters[:62] + letters[63:]) for letters in strands]
        blocks = [i % 21 for i in range(438)]
        calls = [sr_start(64, 32, 5376)] + reads + [sr_bytes(block) for block in blocks]
        self.assertEqual(sum(map(len, calls)), 4 + 448 * 65 + 438 * 2)
        answered = self.ask_in_time(*calls)
        self.assertEqual(answered[1:449], [[1]] * 448)
        self.assertEqual(answered[449:], [[256] + data[256 * block:256 * block + 256] for block in blocks])

    def test_30000_numbers_with_the_bytes_asked_for_after_each_strand(self):
        data = some_bytes(768, 2)
        strands = list(reversed(file_strands(32, 32, data)))
        calls = [sr_start(32, 32, 768)]
        for i in range(430):
            calls += [sr_read(strands[i % 128]), sr_bytes(i % 3)]
        answered = self.ask_in_time(*calls)
        self.assertEqual(answered[1::2], [[1]] * 128 + [[0]] * 302)
        whole = [[256] + data[256 * block:256 * block + 256] for block in range(3)]
        self.assertEqual(answered[2::2], [[-11] if i < 95 else whole[i % 3] for i in range(430)])

    def test_30000_numbers_that_can_not_be_mended(self):
        row = build_strand(3, some_bytes(12))
        row = row[5:20] + row[:5] + row[30:] + row[20:30]
        answered = self.ask_in_time(sr_start(1, 3, 12288), *[sr_read(row)] * 454)
        self.assertEqual(answered, [[4096]] + [[-74]] * 454)


if __name__ == "__main__":
    unittest.main()
