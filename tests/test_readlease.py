import inspect
import random
import unittest

from campuswires.wires import lease, readlease
from watched import GREATEST, LEAST, TOP_ADDRESS, TOP_HARDWARE, check_answers, check_left_alone, filled, lease_by_words
from watched import lease_head, plain_row, put, rows_that_are_not_bytes, rows_too_long

NUMBERS = (1, 2, 3, 4, 5, 6, 7, 8, 9)
HEAD = lease_head(*NUMBERS)
RANGES = [(1, 8), (0, 16), (0, 65535), (0, 2 ** 32 - 1), (0, TOP_HARDWARE)] + [(0, TOP_ADDRESS)] * 4


def field(code, length):
    """A field as it stands in the bytes."""
    return [code, length] + plain_row(length)


def ended(*fields):
    """A message with these fields as they stand, rightly ended."""
    return filled(HEAD + sum(fields, []) + [255])


def told(*fields):
    """The answer for a code and a value each."""
    answer = [0] + list(NUMBERS) + [len(fields)]
    for code, value in fields:
        answer += [code, len(value)] + value
    return answer


class ReadleaseTest(unittest.TestCase):
    def check_read_back(self, fields, numbers=NUMBERS):
        answer = [0] + list(numbers) + [len(fields)]
        for code, *value in fields:
            answer += [code, len(value)] + value
        self.assertEqual(readlease(lease_by_words(numbers, fields)), answer)
        self.assertEqual(readlease(lease(*numbers, fields)[2:]), answer)

    def test_interface(self):
        self.assertEqual(list(inspect.signature(readlease).parameters), ["b"])
        self.assertEqual(readlease(b=ended([7, 2, 8, 9])), told((7, [8, 9])))

    def test_written_answers(self):
        head = [8, 16, 1, 2, 3, 4, 5, 6, 7, 8, 9, 10, 11, 12, 0, 0] + list(range(13, 29))
        numbers = [8, 16, 0x0102, 0x03040506, 0x0708090A0B0C, 0x0D0E0F10, 0x11121314, 0x15161718, 0x191A1B1C]
        self.assertEqual(readlease(head + [255, 0, 0, 0]), [0] + numbers + [0])
        self.assertEqual(readlease(head + [1, 1, 9, 255]), [0] + numbers + [1, 1, 1, 9])
        self.assertEqual(readlease(head + [1, 0, 254, 3, 255, 0, 1, 255]),
                         [0] + numbers + [2, 1, 0, 254, 3, 255, 0, 1])

    def test_read_back(self):
        source = random.Random(15)
        for turn in range(100):
            numbers = [source.randrange(least, greatest + 1) for least, greatest in RANGES]
            fields = []
            for code in sorted(source.sample(range(1, 255), source.randrange(12))):
                fields.append([code] + [source.randrange(256) for place in range(source.randrange(90))])
            self.check_read_back(fields, numbers)

    def test_read_back_at_the_ends(self):
        for ends in ([least for least, greatest in RANGES], [greatest for least, greatest in RANGES]):
            self.check_read_back([], ends)
            self.check_read_back([[1], [254, 255]], ends)
        for length in (0, 1, 2, 3, 254, 255, 256, 257, 399, 509, 510, 511, 765, 766, 999, 1000):
            self.check_read_back([[1] + plain_row(length)])
            self.check_read_back([[1, 2], [7] + plain_row(length), [9, 4]])
        self.check_read_back([[code] for code in range(1, 255)])

    def test_lengths(self):
        self.assertEqual(readlease(HEAD + [255, 0, 0, 0]), told())
        for length in (0, 1, 4, 16, 32, 33, 34, 35):
            self.assertEqual(readlease((HEAD + [255, 0, 0, 0])[:length]), [-1])
        for fields in ([], [field(7, 20)]):
            row = ended(*fields)
            for zeros in (1, 2, 3):
                self.assertEqual(readlease(row + [0] * zeros), [-1])
            for missing in (1, 2, 3):
                self.assertEqual(readlease(row[:-missing]), [-1])
        longest = ended(*[field(code, 255) for code in (1, 2, 3, 4, 5)], field(6, 80))
        self.assertEqual((len(longest), readlease(longest)[:11]), (1400, [0] + list(NUMBERS) + [6]))
        longer = ended(*[field(code, 255) for code in (1, 2, 3, 4, 5)], field(6, 81))
        self.assertEqual((len(longer), readlease(longer)), (1404, [-1]))
        for row in rows_too_long(1400):
            self.assertEqual(readlease(row), [-1])

    def test_not_all_bytes(self):
        for row in rows_that_are_not_bytes((36, 40, 1400)):
            self.assertEqual(readlease(row), [-1])
        right = ended(field(7, 20))
        for place in range(len(right)):
            for number in (-1, 256, right[place] - 256, right[place] + 256, LEAST, GREATEST):
                self.assertEqual(readlease(put(right, place, number)), [-1])

    def test_fields_that_do_not_end(self):
        self.assertEqual(readlease(HEAD + [0, 0, 0, 0]), [-2])
        self.assertEqual(readlease(HEAD + [7, 1, 9, 0, 255, 0, 0, 0]), [-2])
        # A code 0 whose length and value would be there, and a 255 behind them:
        for fields in ([[0, 0]], [[0, 1, 9]], [[0, 0], [7, 1, 9]], [[7, 1, 9], [0, 2, 8, 9]], [field(7, 255), [0, 0]]):
            self.assertEqual(readlease(ended(*fields)), [-2])
        # Before a 255 is taken as a code:
        self.assertEqual(readlease(HEAD + [7, 2, 8, 9]), [-2])
        self.assertEqual(readlease(HEAD + [7, 2, 255, 255]), [-2])
        self.assertEqual(readlease(HEAD + [7, 0, 8, 0]), [-2])
        # Before a length:
        self.assertEqual(readlease(HEAD + [7, 1, 9, 8]), [-2])
        self.assertEqual(readlease(HEAD + field(7, 0) + field(8, 3) + [9]), [-2])
        # Before as many bytes as a length tells:
        for length in (3, 4, 254, 255):
            self.assertEqual(readlease(HEAD + [7, length, 255, 0]), [-2])
        self.assertEqual(readlease(HEAD + [7, 0, 8, 255]), [-2])
        self.assertEqual(readlease(ended(field(7, 20))[:-8] + [255] * 4), [-2])

    def test_behind_the_end(self):
        for row in (ended(), ended(field(7, 1)), ended(field(7, 20)), ended(field(7, 3))):
            self.assertEqual(readlease(row)[0], 0)
            self.assertEqual(readlease(row + [0] * 4), [-3])
            self.assertEqual(readlease(row + [255, 0, 0, 0]), [-3])
            self.assertEqual(readlease(row + [0] * 400), [-3])
        for place in (33, 34, 35):
            for byte in (1, 7, 255):
                self.assertEqual(readlease(put(ended(), place, byte)), [-3])
        self.assertEqual(readlease(HEAD + [7, 0, 255, 1]), [-3])
        self.assertEqual(readlease(HEAD + [255, 255, 255, 255]), [-3])

    def test_neighbours_of_one_code(self):
        long = plain_row(255)
        self.assertEqual(readlease(ended(field(7, 255))), told((7, long)))
        self.assertEqual(readlease(ended(field(7, 255), field(8, 3))), told((7, long), (8, plain_row(3))))
        for length in (1, 2, 254, 255):
            both = long + plain_row(length)
            self.assertEqual(readlease(ended(field(7, 255), field(7, length))), told((7, both)))
            self.assertEqual(readlease(ended(field(6, 255), field(7, 255), field(7, length), field(8, 0))),
                             told((6, long), (7, both), (8, [])))
        self.assertEqual(readlease(ended(field(7, 255), field(7, 255), field(7, 9))),
                         told((7, long + long + plain_row(9))))

    def test_codes_that_fall(self):
        for fields in ([field(7, 1), field(6, 1)], [field(7, 255), field(6, 3)], [field(254, 0), field(1, 0)],
                       [field(5, 1), field(7, 1), field(6, 1)], [field(7, 255), field(7, 3), field(6, 3)],
                       [field(7, 255), field(8, 1), field(7, 3)]):
            self.assertEqual(readlease(ended(*fields)), [-4])

    def test_same_code_behind_fewer_than_255_bytes(self):
        for length in (0, 1, 9, 254):
            for behind in (0, 1, 255):
                self.assertEqual(readlease(ended(field(7, length), field(7, behind))), [-4])
        # What counts is the one before as it stands in the bytes, not what they are joined to.
        self.assertEqual(readlease(ended(field(7, 255), field(7, 3), field(7, 3))), [-4])
        self.assertEqual(readlease(ended(field(7, 255), field(7, 254), field(7, 3))), [-4])

    def test_same_code_with_no_bytes(self):
        self.assertEqual(readlease(ended(field(7, 255), field(7, 0))), [-4])
        self.assertEqual(readlease(ended(field(7, 255), field(7, 255), field(7, 0))), [-4])
        self.assertEqual(readlease(ended(field(7, 255), field(8, 0))), told((7, plain_row(255)), (8, [])))

    def test_numbers_out_of_their_ranges(self):
        for row in (ended(), ended(field(7, 20))):
            for op in range(256):
                self.assertEqual(readlease(put(row, 0, op))[0], 0 if 1 <= op <= 8 else -5)
            for hops in range(256):
                self.assertEqual(readlease(put(row, 1, hops))[0], 0 if hops <= 16 else -5)
            for place in list(range(2, 14)) + list(range(16, 32)):
                for byte in (0, 255):
                    self.assertEqual(readlease(put(row, place, byte))[0], 0)

    def test_fifteenth_and_sixteenth_bytes(self):
        for byte in (1, 128, 255):
            self.assertEqual(readlease(put(ended(), 14, byte)), [-5])
            self.assertEqual(readlease(put(ended(), 15, byte)), [-5])
            self.assertEqual(readlease(put(ended(), 14, byte, byte)), [-5])

    def test_longest_value(self):
        front = [field(7, 255)] * 3
        self.assertEqual(readlease(ended(*front, field(7, 235)))[11:13], [7, 1000])
        self.assertEqual(readlease(ended(*front, field(7, 236))), [-6])
        self.assertEqual(readlease(ended(*front, field(7, 255))), [-6])
        self.assertEqual(readlease(ended(field(1, 9), *front, field(7, 255), field(7, 1), field(8, 2))), [-6])
        self.assertEqual(readlease(ended(field(1, 255), *front, field(8, 100)))[0], 0)

    def test_the_refusal_told_first(self):
        falling = [field(7, 1), field(6, 1)]
        too_long = [field(7, 255)] * 4
        check_answers(self, readlease, [
            (-1, ((HEAD + [0, 0, 0, 0])[:35],)),
            (-1, (HEAD + [0] * 5,)),
            (-1, (HEAD + [256, 0, 0, 0],)),
            (-2, (HEAD + [7, 1, 9, 7, 1, 9, 0, 255, 1, 1, 1, 1],)),
            (-2, (HEAD + [7, 1, 9, 6, 1, 9, 0, 0],)),
            (-2, (put(HEAD, 0, 0) + [0, 0, 0, 0],)),
            (-3, (ended(*falling) + [0] * 4,)),
            (-3, (put(ended(), 0, 0, 17) + [0] * 4,)),
            (-4, (put(ended(*falling), 0, 9),)),
            (-4, (put(ended(*falling), 14, 1),)),
            (-4, (ended(*too_long, field(6, 1)),)),
            (-5, (put(ended(*too_long), 1, 17),)),
            (-5, (put(ended(*too_long), 15, 1),)),
            (-6, (ended(*too_long),)),
        ])

    def test_nothing_changed_or_kept(self):
        rows = [ended(), ended(field(7, 20), field(8, 0)), ended(field(7, 255), field(7, 255), field(7, 3)), [],
                HEAD, HEAD + [0] * 4, ended() + [0] * 4, ended(field(7, 1), field(6, 1)), put(ended(), 0, 0),
                ended(*[field(7, 255)] * 4), plain_row(1400), plain_row(10000), [GREATEST] * 10000, [LEAST] * 36]
        check_left_alone(self, readlease, [(row,) for row in rows])


if __name__ == "__main__":
    unittest.main()
