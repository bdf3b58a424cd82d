import inspect
import random
import unittest

from campuswires.wires import packet
from watched import GREATEST, LEAST, TOP_ADDRESS, answered, check_answers, check_ends, check_left_alone
from watched import packet_by_words, plain_row, rows_that_are_not_bytes, rows_too_long

NAMES = ["tos", "ident", "keep", "more", "offset", "hops", "proto", "sender", "to", "body"]
RIGHT = (1, 2, 0, 0, 3, 64, 17, 5, 6)
RANGES = [(0, 255), (0, 65535), (0, 1), (0, 1), (0, 8191), (0, 255), (0, 255), (0, TOP_ADDRESS), (0, TOP_ADDRESS)]


def choices(keep, more, offset):
    return (1, 2, keep, more, offset, 64, 17, 5, 6)


class PacketTest(unittest.TestCase):
    def check_written(self, numbers, body):
        self.assertEqual(packet(*numbers, body), answered(packet_by_words(*numbers, body)))

    def test_interface(self):
        self.assertEqual(list(inspect.signature(packet).parameters), NAMES)
        handed = dict(zip(NAMES, RIGHT + ([7] * 8,)))
        self.assertEqual(packet(**handed), packet(*RIGHT, [7] * 8))

    def test_written_bytes(self):
        answer = packet(0, 0, 1, 0, 0, 64, 17, 0xC0A80001, 0xC0A800C7, [0] * 95)
        head = [69, 0, 0, 115, 0, 0, 64, 0, 64, 17, 0xB8, 0x61, 192, 168, 0, 1, 192, 168, 0, 199]
        self.assertEqual(answer, [0, 115] + head + [0] * 95)
        answer = packet(255, 0x1234, 0, 1, 0x123, 1, 2, 0x01020304, 0x05060708, [9] * 8)
        self.assertEqual(answer[:12], [0, 28, 69, 255, 0, 28, 0x12, 0x34, 0x21, 0x23, 1, 2])
        self.assertEqual(answer[14:], [1, 2, 3, 4, 5, 6, 7, 8] + [9] * 8)

    def test_empty_body(self):
        self.assertEqual(packet(0, 0, 0, 0, 0, 0, 0, 0, 0, []), [0, 20, 69, 0, 0, 20] + [0] * 6 + [186, 235] + [0] * 8)

    def test_sum_0(self):
        # 69 * 256 + 20 and 47851 make 65535.
        self.assertEqual(packet(0, 47851, 0, 0, 0, 0, 0, 0, 0, [])[12:14], [0, 0])
        self.assertEqual(packet(0, 47850, 0, 0, 0, 0, 0, 0, 0, [])[12:14], [0, 1])
        self.assertEqual(packet(0, 47852, 0, 0, 0, 0, 0, 0, 0, [])[12:14], [255, 254])

    def test_ordinary_packets(self):
        source = random.Random(6)
        for turn in range(100):
            keep, more = [(0, 0), (1, 0), (0, 1)][turn % 3]
            length = source.randrange(1, 30) * (8 if more else 1)
            numbers = (source.randrange(256), source.randrange(65536), keep, more,
                       0 if keep else source.randrange(900), source.randrange(256), source.randrange(256),
                       source.randrange(2 ** 32), source.randrange(2 ** 32))
            self.check_written(numbers, [source.randrange(256) for place in range(length)])

    def test_ends_of_the_numbers(self):
        for place in (0, 1, 5, 6, 7, 8):
            for number in RANGES[place]:
                numbers = RIGHT[:place] + (number,) + RIGHT[place + 1:]
                self.check_written(numbers, plain_row(8))
        # The offset stays 0 here, for not every offset in its range may be; its ends are looked at below.
        check_ends(self, lambda *numbers: packet(*numbers[:4], 0, *numbers[4:], plain_row(8)),
                   RIGHT[:4] + RIGHT[5:], RANGES[:4] + RANGES[5:], -1)
        self.check_written((255, 65535, 0, 0, 0, 255, 255, TOP_ADDRESS, TOP_ADDRESS), [255] * 9)

    def test_ends_of_the_offset(self):
        for offset in (-1, 8192, LEAST, GREATEST):
            for keep, more in ((0, 0), (1, 0), (0, 1)):
                self.assertEqual(packet(*choices(keep, more, offset), plain_row(8)), [-1])
        for offset in (1001, 8191):
            self.assertEqual(packet(*choices(0, 0, offset), []), [-3])
        self.check_written(choices(0, 0, 0), [])
        self.check_written(choices(0, 0, 1000), [])

    def test_body_that_is_not_all_bytes(self):
        for body in rows_that_are_not_bytes((1, 8, 8000)):
            self.assertEqual(packet(*choices(0, 0, 0), body), [-2])

    def test_longest_body(self):
        self.check_written(choices(0, 0, 0), plain_row(8000))
        self.check_written(choices(1, 0, 0), plain_row(8000))
        self.check_written(choices(0, 1, 0), plain_row(8000))
        for body in rows_too_long(8000):
            self.assertEqual(packet(*choices(0, 0, 0), body), [-2])

    def test_keep(self):
        for body in ([], [1], plain_row(8)):
            self.check_written(choices(1, 0, 0), body)
        self.assertEqual(packet(*choices(1, 1, 0), plain_row(8)), [-3])
        self.assertEqual(packet(*choices(1, 0, 1), plain_row(8)), [-3])
        self.assertEqual(packet(*choices(1, 1, 1), plain_row(8)), [-3])

    def test_more(self):
        for length in (8, 16, 800):
            self.check_written(choices(0, 1, 0), plain_row(length))
            self.check_written(choices(0, 1, 7), plain_row(length))
        for length in (0, 1, 4, 7, 9, 12, 15, 17, 7999):
            self.assertEqual(packet(*choices(0, 1, 0), plain_row(length)), [-3])

    def test_end_of_the_body(self):
        for more, offset, length in ((0, 1000, 0), (0, 999, 8), (0, 999, 7), (1, 999, 8), (0, 1, 7992), (1, 1, 7992)):
            self.check_written(choices(0, more, offset), plain_row(length))
        for more, offset, length in ((0, 1001, 0), (0, 1000, 1), (0, 999, 9), (1, 1000, 8), (1, 999, 16),
                                     (0, 1, 7993), (0, 1, 8000), (1, 1, 8000)):
            self.assertEqual(packet(*choices(0, more, offset), plain_row(length)), [-3])

    def test_the_refusal_told_first(self):
        check_answers(self, packet, [
            (-1, (256, 2, 0, 0, 0, 64, 17, 5, 6, [256])),
            (-1, (1, 2, 0, 0, 0, 64, 17, 5, TOP_ADDRESS + 1, plain_row(8001))),
            (-1, (1, 2, 1, 1, 8192, 64, 17, 5, 6, [])),
            (-1, (1, 2, 2, 1, 1, 64, 17, 5, 6, [256] * 7)),
            (-2, choices(1, 1, 1) + ([256],)),
            (-2, choices(0, 1, 0) + ([-1] * 7,)),
            (-2, choices(0, 0, 1) + (plain_row(8001),)),
        ])

    def test_nothing_changed_or_kept(self):
        check_left_alone(self, packet, [
            RIGHT + ([],), RIGHT + (plain_row(9),), choices(0, 0, 0) + (plain_row(8000),), RIGHT + ([256],),
            RIGHT + (plain_row(8001),), RIGHT + (plain_row(10000),), choices(1, 1, 0) + (plain_row(8),),
            choices(0, 1, 0) + (plain_row(7),), (-1,) + RIGHT[1:] + (plain_row(8),),
            (GREATEST, LEAST, GREATEST, LEAST, GREATEST, LEAST, GREATEST, LEAST, GREATEST, [LEAST] * 10000),
        ])


if __name__ == "__main__":
    unittest.main()
