import inspect
import random
import unittest

from campuswires.wires import datagram, readdatagram
from watched import GREATEST, LEAST, TOP_ADDRESS, big, check_answers, check_ends, check_left_alone
from watched import datagram_by_words, plain_row, put, rows_that_are_not_bytes, rows_too_long

FROM, TO = 0xC0A80001, 0xC0A800C7
RIGHT = datagram_by_words(FROM, TO, 5000, 53, [1, 2, 3])


def with_length(told, b):
    """The datagram with another length told, its sum right for the bytes that are there."""
    row = put(b, 4, *big(told, 2))
    told_sum = int.from_bytes(bytes(b[6:8]), "big") - told + len(b)
    while told_sum <= 0:
        told_sum += 65535
    return put(row, 6, *big((told_sum - 1) % 65535 + 1, 2))


class ReaddatagramTest(unittest.TestCase):
    def check_read_back(self, sender, to, sport, dport, body):
        told = [0, sport, dport, len(body)] + body
        self.assertEqual(readdatagram(sender, to, datagram_by_words(sender, to, sport, dport, body)), told)
        self.assertEqual(readdatagram(sender, to, datagram(sender, to, sport, dport, body)[2:]), told)

    def test_interface(self):
        self.assertEqual(list(inspect.signature(readdatagram).parameters), ["sender", "to", "b"])
        self.assertEqual(readdatagram(b=RIGHT, to=TO, sender=FROM), [0, 5000, 53, 3, 1, 2, 3])

    def test_written_answers(self):
        row = [0x12, 0x34, 0x56, 0x78, 0, 10, 0x7E, 0x10, 9, 10]
        self.assertEqual(readdatagram(0x01020304, 0x05060708, row), [0, 0x1234, 0x5678, 2, 9, 10])
        self.assertEqual(readdatagram(0, 0, [0, 0, 0, 0, 0, 8, 255, 0xDE]), [0, 0, 0, 0])

    def test_read_back(self):
        source = random.Random(13)
        for turn in range(200):
            body = [source.randrange(256) for place in range(turn % 60)]
            self.check_read_back(source.randrange(2 ** 32), source.randrange(2 ** 32), source.randrange(65536),
                                 source.randrange(65536), body)

    def test_read_back_at_the_ends(self):
        for numbers in ((0, 0, 0, 0), (TOP_ADDRESS, 0, 65535, 0), (0, TOP_ADDRESS, 0, 65535),
                        (TOP_ADDRESS, TOP_ADDRESS, 65535, 65535)):
            for body in ([], [0], [255] * 9, plain_row(7991), plain_row(7992)):
                self.check_read_back(*numbers, body)

    def test_sum_that_would_be_0(self):
        row = [255, 222, 0, 0, 0, 8, 255, 255]
        self.assertEqual(readdatagram(0, 0, row), [0, 65502, 0, 0])
        self.assertEqual(readdatagram(0, 0, put(row, 6, 0, 0)), [-3])

    def test_no_sum_told(self):
        self.assertEqual(readdatagram(FROM, TO, put(RIGHT, 6, 0, 0)), [-3])

    def test_ends_of_the_addresses(self):
        # Only the range is looked at here: what was written for one pair of addresses is written anew for each.
        def call(sender, to):
            inside = 0 <= sender <= TOP_ADDRESS and 0 <= to <= TOP_ADDRESS
            return readdatagram(sender, to, datagram_by_words(sender, to, 1, 2, [3]) if inside else RIGHT)
        check_ends(self, call, (FROM, TO), [(0, TOP_ADDRESS), (0, TOP_ADDRESS)], -1)

    def test_lengths(self):
        for length in (0, 1, 4, 7):
            self.assertEqual(readdatagram(FROM, TO, RIGHT[:length]), [-1])
        self.assertEqual(readdatagram(FROM, TO, put(RIGHT, 5, 7)[:7]), [-1])
        for length in (8, 9, 7999, 8000):
            row = datagram_by_words(FROM, TO, 1, 2, plain_row(length - 8))
            self.assertEqual(readdatagram(FROM, TO, row), [0, 1, 2, length - 8] + row[8:])
        self.assertEqual(readdatagram(FROM, TO, datagram_by_words(FROM, TO, 1, 2, plain_row(7993))), [-1])
        for row in rows_too_long(8000):
            self.assertEqual(readdatagram(FROM, TO, row), [-1])

    def test_not_all_bytes(self):
        for row in rows_that_are_not_bytes((8, 9, 8000)):
            self.assertEqual(readdatagram(FROM, TO, row), [-1])
        for place in range(len(RIGHT)):
            for number in (-1, 256, RIGHT[place] - 256, RIGHT[place] + 256, LEAST, GREATEST):
                self.assertEqual(readdatagram(FROM, TO, put(RIGHT, place, number)), [-1])

    def test_length_told(self):
        self.assertEqual(with_length(11, RIGHT), RIGHT)
        for told in (0, 3, 8, 10, 12, 11 + 256, 65535):
            self.assertEqual(readdatagram(FROM, TO, with_length(told, RIGHT)), [-2])
            self.assertEqual(readdatagram(FROM, TO, put(RIGHT, 4, *big(told, 2))), [-2])
        self.assertEqual(readdatagram(FROM, TO, RIGHT[:-1]), [-2])
        self.assertEqual(readdatagram(FROM, TO, RIGHT + [0]), [-2])

    def test_sum_told(self):
        for place in (0, 1, 2, 3, 6, 7, 8, 9, 10):
            for change in (1, 128, 255):
                self.assertEqual(readdatagram(FROM, TO, put(RIGHT, place, RIGHT[place] ^ change)), [-3])

    def test_other_addresses(self):
        self.assertEqual(readdatagram(FROM + 1, TO, RIGHT), [-3])
        self.assertEqual(readdatagram(FROM, TO + 1, RIGHT), [-3])
        self.assertEqual(readdatagram(0, TO, RIGHT), [-3])
        self.assertEqual(readdatagram(FROM, TOP_ADDRESS, RIGHT), [-3])
        # The sum doesn't tell which of the two is which.
        self.assertEqual(readdatagram(TO, FROM, RIGHT)[0], 0)

    def test_the_refusal_told_first(self):
        check_answers(self, readdatagram, [
            (-1, (-1, TO, RIGHT[:-1])),
            (-1, (FROM, TOP_ADDRESS + 1, RIGHT)),
            (-1, (FROM, TO, put(RIGHT, 5, 12)[:7])),
            (-1, (FROM, TO, put(RIGHT, 10, 256)[:11] + [0])),
            (-2, (FROM, TO, put(RIGHT, 5, 12))),
            (-2, (FROM + 1, TO, RIGHT[:-1])),
            (-3, (FROM + 1, TO, RIGHT)),
        ])

    def test_nothing_changed_or_kept(self):
        check_left_alone(self, readdatagram, [
            (FROM, TO, RIGHT), (FROM, TO, datagram_by_words(FROM, TO, 1, 2, plain_row(7992))), (FROM, TO, []),
            (FROM, TO, RIGHT[:7]), (FROM, TO, put(RIGHT, 0, 256)), (FROM, TO, RIGHT[:-1]), (FROM + 1, TO, RIGHT),
            (-1, TO, RIGHT), (FROM, TO, plain_row(10000)), (GREATEST, LEAST, [GREATEST] * 10000),
            (LEAST, GREATEST, [LEAST] * 8),
        ])


if __name__ == "__main__":
    unittest.main()
