import inspect
import random
import unittest

from campuswires.wires import datagram
from watched import GREATEST, LEAST, TOP_ADDRESS, answered, check_answers, check_ends, check_left_alone
from watched import big, datagram_by_words, plain_row, rows_that_are_not_bytes, rows_too_long

NAMES = ["sender", "to", "sport", "dport", "body"]
RIGHT = (0xC0A80001, 0xC0A800C7, 5000, 53)
RANGES = [(0, TOP_ADDRESS), (0, TOP_ADDRESS), (0, 65535), (0, 65535)]


def body_for_sum_0(length):
    """A body of that length, at least 2, whose first two bytes bring the sum to 0."""
    rest = plain_row(length)[2:]
    told = datagram_by_words(*RIGHT, [0, 0] + rest)[6:8]
    return told + rest


class DatagramTest(unittest.TestCase):
    def check_written(self, *handed):
        self.assertEqual(datagram(*handed), answered(datagram_by_words(*handed)))

    def test_interface(self):
        self.assertEqual(list(inspect.signature(datagram).parameters), NAMES)
        self.assertEqual(datagram(**dict(zip(NAMES, RIGHT + ([7],)))), datagram(*RIGHT, [7]))

    def test_written_bytes(self):
        # 0x0102 + 0x0304 + 0x0506 + 0x0708 + 17 + 10 + 0x1234 + 0x5678 + 10 + 0x090A = 0x81EF
        answer = datagram(0x01020304, 0x05060708, 0x1234, 0x5678, [9, 10])
        self.assertEqual(answer, [0, 10, 0x12, 0x34, 0x56, 0x78, 0, 10, 0x7E, 0x10, 9, 10])
        self.assertEqual(datagram(0, 0, 0, 0, []), [0, 8, 0, 0, 0, 0, 0, 8, 255, 0xDE])
        self.assertEqual(datagram(0, 0, 0, 0, [1]), [0, 9, 0, 0, 0, 0, 0, 9, 254, 0xDC, 1])

    def test_odd_and_even_lengths(self):
        for length in range(40):
            self.check_written(*RIGHT, plain_row(length))
            self.check_written(*RIGHT, [255] * length)
            self.check_written(*RIGHT, [0] * length)

    def test_ordinary_datagrams(self):
        source = random.Random(12)
        for turn in range(200):
            body = [source.randrange(256) for place in range(source.randrange(60))]
            self.check_written(source.randrange(2 ** 32), source.randrange(2 ** 32), source.randrange(65536),
                               source.randrange(65536), body)

    def test_sum_that_would_be_0(self):
        for length in (2, 3, 10, 11, 7991, 7992):
            body = body_for_sum_0(length)
            answer = datagram(*RIGHT, body)
            self.assertEqual(answer[8:10], [255, 255])
            self.assertEqual(answer, [0, 8 + length] + big(5000, 2) + big(53, 2) + big(8 + length, 2) + [255, 255] + body)
        # 17 + 8 + 8 = 33, and 65502 brings it to 65535.
        self.assertEqual(datagram(0, 0, 65502, 0, []), [0, 8, 255, 222, 0, 0, 0, 8, 255, 255])
        self.assertEqual(datagram(0, 0, 65501, 0, [])[8:], [0, 1])
        self.assertEqual(datagram(0, 0, 65503, 0, [])[8:], [255, 254])

    def test_longest_body(self):
        for length in (7991, 7992):
            self.check_written(*RIGHT, plain_row(length))
            self.check_written(*RIGHT, [255] * length)
        for body in rows_too_long(7992):
            self.assertEqual(datagram(*RIGHT, body), [-2])

    def test_body_that_is_not_all_bytes(self):
        for body in rows_that_are_not_bytes((1, 2, 9, 7992)):
            self.assertEqual(datagram(*RIGHT, body), [-2])

    def test_ends_of_the_numbers(self):
        check_ends(self, lambda *numbers: datagram(*numbers, [1, 2, 3]), RIGHT, RANGES, -1)
        check_ends(self, lambda *numbers: datagram(*numbers, []), (0, 0, 0, 0), RANGES, -1)
        for numbers in ((TOP_ADDRESS, 0, 0, 0), (0, TOP_ADDRESS, 0, 0), (0, 0, 65535, 0), (0, 0, 0, 65535),
                        (TOP_ADDRESS, TOP_ADDRESS, 65535, 65535)):
            self.check_written(*numbers, [])
            self.check_written(*numbers, [255] * 9)

    def test_the_refusal_told_first(self):
        check_answers(self, datagram, [
            (-1, (-1, 0, 0, 0, [256])),
            (-1, (0, TOP_ADDRESS + 1, 0, 0, plain_row(7993))),
            (-1, (0, 0, 65536, 0, [-1])),
            (-1, (0, 0, 0, -1, [GREATEST])),
            (-2, (0, 0, 0, 0, [256])),
        ])

    def test_nothing_changed_or_kept(self):
        check_left_alone(self, datagram, [
            RIGHT + ([],), RIGHT + ([7],), RIGHT + (plain_row(7992),), RIGHT + (body_for_sum_0(8),),
            RIGHT + (plain_row(7993),), RIGHT + (plain_row(10000),), RIGHT + ([1, 256],), (-1, 0, 0, 0, [1]),
            (GREATEST, LEAST, GREATEST, LEAST, [GREATEST] * 10000), (LEAST, GREATEST, LEAST, GREATEST, [LEAST]),
        ])


if __name__ == "__main__":
    unittest.main()
