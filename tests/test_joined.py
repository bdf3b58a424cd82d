import inspect
import random
import unittest
import zlib

from campuswires.wires import crc, joined
from watched import GREATEST, LEAST, plain_row

TOP = 2 ** 32 - 1


def joined_by_words(a, c, length):
    r = a
    for turn in range(8 * length):
        r = r >> 1 ^ (3988292384 if r & 1 else 0)
    return r ^ c


class JoinedTest(unittest.TestCase):
    def check_rows(self, first, second):
        a, c = crc(first)[1], crc(second)[1]
        answer = joined(a, c, len(second))
        self.assertEqual(answer, [0, zlib.crc32(bytes(first + second))])
        self.assertEqual(answer, crc(first + second))

    def test_interface(self):
        self.assertEqual(list(inspect.signature(joined).parameters), ["a", "c", "length"])
        self.assertEqual(joined(length=0, c=5, a=6), [0, 3])

    def test_length_0(self):
        for a, c in ((0, 0), (TOP, 0), (0, TOP), (TOP, TOP), (12, 10)):
            self.assertEqual(joined(a, c, 0), [0, a ^ c])

    def test_written_answers(self):
        self.assertEqual(joined(1, 0, 1), [0, 1996959894])
        self.assertEqual(joined(256, 0, 1), [0, 1])
        self.assertEqual(joined(128, 0, 1), [0, 3988292384])
        self.assertEqual(joined(65536, 7, 2), [0, 6])

    def test_ends_of_the_ranges(self):
        for a in (0, 1, TOP - 1, TOP):
            for c in (0, 1, TOP - 1, TOP):
                for length in (0, 1, 4095, 4096):
                    answer = joined(a, c, length)
                    self.assertEqual(answer, [0, joined_by_words(a, c, length)])
                    self.assertEqual([type(answer)] + [type(number) for number in answer], [list, int, int])

    def test_beyond_the_ranges(self):
        for wrong in (-1, TOP + 1, LEAST, GREATEST, -TOP):
            for right in (0, 1234567, TOP):
                for length in (0, 9, 4096):
                    self.assertEqual(joined(wrong, right, length), [-1])
                    self.assertEqual(joined(right, wrong, length), [-1])
                    self.assertEqual(joined(wrong, wrong, length), [-1])
        for length in (-1, 4097, 9000, TOP, LEAST, GREATEST):
            for a, c in ((0, 0), (5, 6), (TOP, TOP), (-1, 0), (0, TOP + 1)):
                self.assertEqual(joined(a, c, length), [-1])

    def test_two_rows_put_together(self):
        source = random.Random(3)
        for turn in range(60):
            first = [source.randrange(256) for place in range(source.randrange(40))]
            second = [source.randrange(256) for place in range(source.randrange(40))]
            self.check_rows(first, second)

    def test_long_rows_put_together(self):
        self.check_rows(plain_row(4904), plain_row(4096))
        self.check_rows([9], plain_row(4096))
        self.check_rows(plain_row(8999), [9])

    def test_one_row_empty(self):
        for row in ([], [0], [255] * 4, plain_row(300), plain_row(4096)):
            self.check_rows(row, [])
            self.check_rows([], row)

    def test_nothing_changed_or_kept(self):
        calls = [(0, 0, 0), (TOP, TOP, 4096), (10 ** 9, 77, 3), (-1, 0, 0), (0, TOP + 1, 5), (1, 2, 4097)]
        alone = []
        for numbers in calls:
            handed = tuple(numbers)
            first = joined(*handed)
            second = joined(*handed)
            self.assertEqual(first, second)
            self.assertEqual(handed, numbers)
            second.append(5)
            self.assertEqual(joined(*handed), first)
            alone.append(first)
        self.assertEqual([joined(*numbers) for numbers in reversed(calls)], alone[::-1])


if __name__ == "__main__":
    unittest.main()
