import inspect
import random
import unittest

from campuswires.wires import packet, readpacket
from watched import GREATEST, LEAST, TOP_ADDRESS, big, check_answers, check_left_alone, packet_by_words
from watched import plain_row, put, rows_that_are_not_bytes, rows_too_long, summed

RIGHT = (1, 2, 0, 0, 3, 64, 17, 5, 6)


def with_choices(keep, more, offset, body):
    return packet_by_words(1, 2, keep, more, offset, 64, 17, 5, 6, body)


def with_choices_number(number, body):
    return summed(put(with_choices(0, 0, 0, body), 6, *big(number, 2)))


class ReadpacketTest(unittest.TestCase):
    def check_read_back(self, numbers, body):
        told = [0] + list(numbers) + [len(body)] + body
        self.assertEqual(readpacket(packet_by_words(*numbers, body)), told)
        self.assertEqual(readpacket(packet(*numbers, body)[2:]), told)

    def test_interface(self):
        self.assertEqual(list(inspect.signature(readpacket).parameters), ["b"])
        self.assertEqual(readpacket(b=packet_by_words(*RIGHT, [9])), [0] + list(RIGHT) + [1, 9])

    def test_written_answers(self):
        head = [69, 0, 0, 21, 0, 0, 64, 0, 64, 17, 0xB8, 0xBF, 192, 168, 0, 1, 192, 168, 0, 199]
        self.assertEqual(readpacket(head + [7]), [0, 0, 0, 1, 0, 0, 64, 17, 0xC0A80001, 0xC0A800C7, 1, 7])
        row = summed([69, 255, 0, 28, 0x12, 0x34, 0x21, 0x23, 1, 2, 0, 0, 1, 2, 3, 4, 5, 6, 7, 8] + [9] * 8)
        self.assertEqual(readpacket(row), [0, 255, 0x1234, 0, 1, 0x123, 1, 2, 0x01020304, 0x05060708, 8] + [9] * 8)

    def test_read_back(self):
        source = random.Random(7)
        for turn in range(100):
            keep, more = [(0, 0), (1, 0), (0, 1)][turn % 3]
            length = source.randrange(1, 30) * (8 if more else 1)
            numbers = (source.randrange(256), source.randrange(65536), keep, more,
                       0 if keep else source.randrange(900), source.randrange(256), source.randrange(256),
                       source.randrange(2 ** 32), source.randrange(2 ** 32))
            self.check_read_back(numbers, [source.randrange(256) for place in range(length)])

    def test_read_back_at_the_ends(self):
        self.check_read_back((0,) * 9, [])
        self.check_read_back((255, 65535, 0, 0, 1000, 255, 255, TOP_ADDRESS, TOP_ADDRESS), [])
        self.check_read_back((255, 65535, 1, 0, 0, 255, 255, TOP_ADDRESS, TOP_ADDRESS), [255] * 8000)
        self.check_read_back((0, 0, 0, 1, 999, 0, 0, 0, 0), [0] * 8)
        self.check_read_back((0, 0, 0, 1, 0, 0, 0, 0, 0), plain_row(8000))
        for length in range(20):
            self.check_read_back(RIGHT, plain_row(length))

    def test_lengths(self):
        empty = with_choices(0, 0, 0, [])
        self.assertEqual(readpacket(empty)[0], 0)
        for length in (0, 1, 10, 19):
            self.assertEqual(readpacket(empty[:length]), [-1])
        self.assertEqual(readpacket(summed(put(empty, 3, 19))[:19]), [-1])
        self.assertEqual(len(with_choices(0, 0, 0, plain_row(8000))), 8020)
        self.assertEqual(readpacket(with_choices(0, 0, 0, plain_row(8000)))[:12],
                         [0, 1, 2, 0, 0, 0, 64, 17, 5, 6, 8000, 11])
        self.assertEqual(readpacket(with_choices(0, 0, 0, plain_row(8001))), [-1])
        for row in rows_too_long(8020):
            self.assertEqual(readpacket(row), [-1])

    def test_not_all_bytes(self):
        for row in rows_that_are_not_bytes((20, 21, 8020)):
            self.assertEqual(readpacket(row), [-1])
        right = with_choices(0, 0, 0, [1, 2, 3])
        for place in range(23):
            for number in (-1, 256, right[place] - 256, right[place] + 256, LEAST, GREATEST):
                self.assertEqual(readpacket(put(right, place, number)), [-1])

    def test_first_byte(self):
        right = with_choices(0, 0, 0, [1, 2, 3])
        for byte in range(256):
            self.assertEqual(readpacket(summed(put(right, 0, byte)))[0], 0 if byte == 69 else -2)

    def test_length_told(self):
        right = with_choices(0, 0, 0, plain_row(280))
        for told in (0, 20, 280, 299, 301, 300 + 256, 44, 65535):
            self.assertEqual(readpacket(summed(put(right, 2, *big(told, 2)))), [-3])
        self.assertEqual(readpacket(right[:-1]), [-3])
        self.assertEqual(readpacket(right + [0]), [-3])
        self.assertEqual(readpacket(summed(put(right, 2, *big(300, 2))))[0], 0)

    def test_sum_told(self):
        right = with_choices(0, 0, 0, [1, 2, 3])
        for place in (1, 4, 5, 8, 9, 10, 11, 12, 13, 14, 15, 16, 17, 18, 19):
            for change in (1, 128, 255):
                self.assertEqual(readpacket(put(right, place, right[place] ^ change)), [-4])
        for place in (20, 21, 22):
            self.assertEqual(readpacket(put(right, place, 99))[0], 0)

    def test_sum_told_65535(self):
        # 0 and 65535 would add to the same; only 0 is what would be written.
        right = packet_by_words(0, 47851, 0, 0, 0, 0, 0, 0, 0, [])
        self.assertEqual(right[10:12], [0, 0])
        self.assertEqual(readpacket(right)[0], 0)
        self.assertEqual(readpacket(put(right, 10, 255, 255)), [-4])

    def test_number_behind_the_id(self):
        for number in (32767, 32768, 32769, 32768 + 16384, 32768 + 8192, 65535):
            self.assertEqual(readpacket(with_choices_number(number, plain_row(8))), [-5])
            self.assertEqual(readpacket(with_choices_number(number, [])), [-5])
        self.assertEqual(readpacket(with_choices_number(16384, plain_row(8)))[3:6], [1, 0, 0])
        self.assertEqual(readpacket(with_choices_number(8192 + 999, plain_row(8)))[3:6], [0, 1, 999])

    def test_keep(self):
        for body in ([], [1], plain_row(8)):
            self.assertEqual(readpacket(with_choices(1, 0, 0, body))[0], 0)
        self.assertEqual(readpacket(with_choices(1, 1, 0, plain_row(8))), [-5])
        self.assertEqual(readpacket(with_choices(1, 0, 1, plain_row(8))), [-5])
        self.assertEqual(readpacket(with_choices(1, 1, 8191, plain_row(8))), [-5])

    def test_more(self):
        for length in (0, 1, 4, 7, 9, 12, 15, 17):
            self.assertEqual(readpacket(with_choices(0, 1, 0, plain_row(length))), [-5])
        for length in (8, 16, 800):
            self.assertEqual(readpacket(with_choices(0, 1, 0, plain_row(length)))[0], 0)

    def test_end_of_the_body(self):
        for more, offset, length in ((0, 1000, 0), (0, 999, 8), (1, 999, 8), (0, 1, 7992)):
            self.assertEqual(readpacket(with_choices(0, more, offset, plain_row(length)))[0], 0)
        for more, offset, length in ((0, 1001, 0), (0, 8191, 0), (0, 1000, 1), (0, 999, 9), (1, 1000, 8), (0, 1, 7993)):
            self.assertEqual(readpacket(with_choices(0, more, offset, plain_row(length))), [-5])

    def test_the_refusal_told_first(self):
        right = with_choices(0, 0, 0, [1, 2, 3])
        unlike = with_choices(1, 1, 1, [1, 2, 3])
        check_answers(self, readpacket, [
            (-1, (put(right, 0, 70)[:19],)),
            (-1, (put(right, 0, 256),)),
            (-2, (put(right, 0, 70)[:22],)),
            (-2, (put(right, 0, 70),)),
            (-3, (put(right, 11, right[11] ^ 1)[:22],)),
            (-3, (put(right, 3, 99),)),
            (-4, (put(unlike, 11, unlike[11] ^ 1),)),
            (-4, (put(right, 6, 128),)),
            (-5, (unlike,)),
        ])

    def test_nothing_changed_or_kept(self):
        right = with_choices(0, 0, 0, [1, 2, 3])
        rows = [right, with_choices(0, 1, 3, plain_row(800)), with_choices(0, 0, 0, plain_row(8000)), right[:19], [],
                put(right, 5, 256), put(right, 0, 0), right[:-1], put(right, 10, 0), with_choices(1, 1, 0, [1]),
                plain_row(10000), [GREATEST] * 10000, [LEAST] * 20]
        check_left_alone(self, readpacket, [(row,) for row in rows])


if __name__ == "__main__":
    unittest.main()
