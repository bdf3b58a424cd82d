import inspect
import random
import unittest

from campuswires.wires import lease
from watched import GREATEST, LEAST, TOP_ADDRESS, TOP_HARDWARE, answered, check_answers, check_ends, check_left_alone
from watched import lease_by_words, plain_row, put, rows_that_are_not_bytes

NAMES = ["op", "hops", "secs", "number", "host", "mine", "yours", "server", "relay", "fields"]
RIGHT = (1, 2, 3, 4, 5, 6, 7, 8, 9)
RANGES = [(1, 8), (0, 16), (0, 65535), (0, 2 ** 32 - 1), (0, TOP_HARDWARE)] + [(0, TOP_ADDRESS)] * 4


def field(code, length):
    return [code] + plain_row(length)


class LeaseTest(unittest.TestCase):
    def check_written(self, fields, numbers=RIGHT):
        self.assertEqual(lease(*numbers, fields), answered(lease_by_words(numbers, fields)))

    def test_interface(self):
        self.assertEqual(list(inspect.signature(lease).parameters), NAMES)
        fields = [[1, 2, 3], [4]]
        self.assertEqual(lease(**dict(zip(NAMES, RIGHT + (fields,)))), lease(*RIGHT, fields))

    def test_written_bytes(self):
        numbers = (8, 16, 0x0102, 0x03040506, 0x0708090A0B0C, 0x0D0E0F10, 0x11121314, 0x15161718, 0x191A1B1C)
        head = [8, 16, 1, 2, 3, 4, 5, 6, 7, 8, 9, 10, 11, 12, 0, 0] + list(range(13, 29))
        self.assertEqual(lease(*numbers, []), [0, 36] + head + [255, 0, 0, 0])
        self.assertEqual(lease(*numbers, [[1]]), [0, 36] + head + [1, 0, 255, 0])
        self.assertEqual(lease(*numbers, [[1, 9]]), [0, 36] + head + [1, 1, 9, 255])
        self.assertEqual(lease(*numbers, [[1, 9], [254, 7, 8]]),
                         [0, 40] + head + [1, 1, 9, 254, 2, 7, 8, 255])

    def test_zeros_at_the_end(self):
        for length in range(12):
            answer = lease(*RIGHT, [field(3, length)])
            zeros = (-(32 + 2 + length + 1)) % 4
            self.assertEqual(answer[1], 32 + 2 + length + 1 + zeros)
            self.assertEqual(answer[-zeros - 1:], [255] + [0] * zeros)
            self.check_written([field(3, length)])

    def test_lengths_of_values(self):
        for length in (0, 1, 2, 254, 255, 256, 257, 398, 399, 509, 510, 511, 765, 766, 999, 1000):
            self.check_written([field(7, length)])
            self.check_written([field(6, 3), field(7, length), field(8, 5)])
        answer = lease(*RIGHT, [field(7, 255)])
        self.assertEqual(answer[34:36] + answer[36 + 255:], [7, 255, 255, 0, 0])
        answer = lease(*RIGHT, [field(7, 256)])
        self.assertEqual(answer[34:36] + answer[36 + 255:], [7, 255, 7, 1, plain_row(256)[-1], 255, 0, 0, 0])
        answer = lease(*RIGHT, [field(7, 510)])
        self.assertEqual(answer[36 + 255:36 + 257] + answer[36 + 512:], [7, 255, 255, 0])

    def test_ordinary_messages(self):
        source = random.Random(14)
        for turn in range(100):
            numbers = [source.randrange(least, greatest + 1) for least, greatest in RANGES]
            fields = []
            for code in sorted(source.sample(range(1, 255), source.randrange(12))):
                fields.append([code] + [source.randrange(256) for place in range(source.randrange(90))])
            self.check_written(fields, numbers)

    def test_ends_of_the_numbers(self):
        for fields in ([], [[1, 2, 3]]):
            check_ends(self, lambda *numbers: lease(*numbers, fields), RIGHT, RANGES, -1)
        self.check_written([[1]], [greatest for least, greatest in RANGES])
        self.check_written([[1]], [least for least, greatest in RANGES])
        for place, ends in enumerate(RANGES):
            for number in ends:
                self.check_written([[5, 5]], put(RIGHT, place, number))

    def test_codes(self):
        for code in (1, 2, 253, 254):
            self.check_written([[code, 3]])
        for code in (0, 255, 256, -1, LEAST, GREATEST):
            self.assertEqual(lease(*RIGHT, [[code, 3]]), [-2])
            self.assertEqual(lease(*RIGHT, [[1], [code, 3]]), [-2])
            self.assertEqual(lease(*RIGHT, [[code], [254, 3]]), [-2])

    def test_order_of_codes(self):
        self.check_written([[1, 3], [2, 3], [254]])
        self.check_written([[code] for code in range(1, 41)])
        self.check_written([[code] for code in range(1, 255)])
        for codes in ((1, 1), (2, 1), (254, 1), (1, 3, 2), (1, 3, 3), (3, 1, 4), (5, 5, 6)):
            self.assertEqual(lease(*RIGHT, [[code, 7] for code in codes]), [-2])
        self.assertEqual(lease(*RIGHT, [[code] for code in range(1, 256)]), [-2])
        self.assertEqual(lease(*RIGHT, [[code] for code in range(1, 301)]), [-2])

    def test_empty_row(self):
        for fields in ([[]], [[], [1]], [[1], []], [[1], [], [2]], [[]] * 40):
            self.assertEqual(lease(*RIGHT, fields), [-2])

    def test_values_that_are_not_all_bytes(self):
        for value in rows_that_are_not_bytes((1, 2, 256, 399)):
            self.assertEqual(lease(*RIGHT, [[9] + value]), [-3])
            self.assertEqual(lease(*RIGHT, [[1, 2], [9] + value, [10]]), [-3])

    def test_values_that_are_too_long(self):
        self.check_written([field(9, 1000)])
        self.assertEqual(lease(*RIGHT, [field(9, 1001)]), [-3])

    def test_longest_message(self):
        # Three fields of 399 + 4 bytes, one of 2 + its value, 32 bytes before and 1 behind.
        fields = [field(1, 399), field(2, 399), field(3, 399)]
        for length in (155, 156):
            self.assertEqual(lease(*RIGHT, fields + [field(4, length)])[:2], [0, 1400])
            self.check_written(fields + [field(4, length)])
        for length in (157, 158, 160, 399):
            self.assertEqual(lease(*RIGHT, fields + [field(4, length)]), [-4])
        self.assertEqual(lease(*RIGHT, [field(code, 399) for code in range(1, 41)]), [-4])

    def test_the_refusal_told_first(self):
        too_much = [field(code, 399) for code in range(1, 5)]
        check_answers(self, lease, [
            (-1, put(RIGHT, 0, 0) + [[[0]]]),
            (-1, put(RIGHT, 8, TOP_ADDRESS + 1) + [[[2], [1]]]),
            (-1, put(RIGHT, 1, 17) + [[[1, 256]]]),
            (-1, put(RIGHT, 4, -1) + [too_much]),
            (-2, RIGHT + ([[1, 256], [1]],)),
            (-2, RIGHT + ([[1, 256], []],)),
            (-2, RIGHT + (too_much + [[4]],)),
            (-3, RIGHT + (too_much + [[5, -1]],)),
            (-3, RIGHT + ([[1, 256]] + too_much[1:] + [field(5, 399)],)),
            (-4, RIGHT + (too_much,)),
        ])

    def test_nothing_changed_or_kept(self):
        many = [field(code, 399) for code in range(1, 41)]
        check_left_alone(self, lease, [
            RIGHT + ([],), RIGHT + ([[1], [2, 3]],), RIGHT + ([field(1, 399), field(2, 256)],), RIGHT + ([[]],),
            RIGHT + ([[2], [1]],), RIGHT + ([[1, 256]],), RIGHT + (many,), (0,) + RIGHT[1:] + ([[1]],),
            (GREATEST, LEAST) * 4 + (GREATEST, [[LEAST] * 400] * 40), RIGHT + ([[GREATEST] * 400] * 40,),
        ])


if __name__ == "__main__":
    unittest.main()
