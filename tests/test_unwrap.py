import inspect
import random
import unittest

from campuswires.wires import unwrap, wrap
from watched import GREATEST, LEAST, TOP_ADDRESS, TOP_HARDWARE, big, check_answers, check_left_alone, datagram_by_words
from watched import frame_by_words, packet_by_words, plain_row, put, rows_that_are_not_bytes, rows_too_long, sealed
from watched import summed, wrap_by_words

BARE = (1, 2, -1, 0, 5, 6, 7, 8, 9, 10)
TAGGED = (1, 2, 100, 3, 5, 6, 7, 8, 9, 10)
RANGES = [(0, TOP_HARDWARE), (0, TOP_HARDWARE), (-1, 4095), (0, 7), (0, TOP_ADDRESS), (0, TOP_ADDRESS), (0, 65535),
          (0, 255), (0, 65535), (0, 65535)]
ONE_TAG = [3, 0, 100]
INNER = datagram_by_words(5, 6, 9, 10, plain_row(20))


def around(inner, tos=0, keep=1, more=0, offset=0, proto=17):
    """A packet of these bytes, right but for what is told."""
    return packet_by_words(tos, 7, keep, more, offset, 8, proto, 5, 6, inner)


RIGHT = around(INNER)


def framed(body, tags=(), kind=2048):
    """A frame of that body, filled up with bytes 0 as the least body asks for."""
    least = 46 - 4 * (len(tags) // 3)
    return frame_by_words(1, 2, kind, list(tags), body + [0] * (least - len(body)))


class UnwrapTest(unittest.TestCase):
    def check_refused(self, refusal, body):
        """The frame of that body is refused, without a tag and with one."""
        self.assertEqual(unwrap(framed(body)), [refusal])
        self.assertEqual(unwrap(framed(body, ONE_TAG)), [refusal])

    def check_read_back(self, numbers, body):
        told = [0] + list(numbers) + [len(body)] + body
        self.assertEqual(unwrap(wrap_by_words(*numbers, body)), told)
        self.assertEqual(unwrap(wrap(*numbers, body)[2:]), told)

    def test_interface(self):
        self.assertEqual(list(inspect.signature(unwrap).parameters), ["b"])
        self.assertEqual(unwrap(b=framed(RIGHT)), [0] + list(BARE) + [20] + plain_row(20))

    def test_written_answer(self):
        head = [69, 0, 0, 30, 0x0D, 0x0E, 64, 0, 15, 17, 0x12, 0x72, 16, 17, 18, 19, 20, 21, 22, 23]
        inner = [0x18, 0x19, 0x1A, 0x1B, 0, 10, 0x65, 0x39, 0x1C, 0x1D]
        row = sealed(list(range(1, 13)) + [129, 0, 0xA1, 0x23, 8, 0] + head + inner + [0] * 12)
        self.assertEqual(unwrap(row), [0, 0x010203040506, 0x0708090A0B0C, 0x123, 5, 0x10111213, 0x14151617, 0x0D0E, 15,
                                       0x1819, 0x1A1B, 2, 0x1C, 0x1D])

    def test_read_back(self):
        source = random.Random(19)
        for turn in range(100):
            numbers = [source.randrange(least, greatest + 1) for least, greatest in RANGES]
            if turn % 3 == 0 or numbers[2] == -1:
                numbers[2:4] = [-1, 0]
            self.check_read_back(numbers, [source.randrange(256) for place in range(source.randrange(60))])

    def test_read_back_at_the_ends(self):
        for numbers in (BARE, TAGGED):
            for length in (0, 1, 13, 14, 15, 17, 18, 19, 1471, 1472):
                self.check_read_back(numbers, plain_row(length))
                self.check_read_back(numbers, [0] * length)
            for place in (0, 1, 4, 5, 6, 7, 8, 9):
                for number in RANGES[place]:
                    self.check_read_back(put(numbers, place, number), [7])
        for vlan in (0, 4095):
            for rank in (0, 7):
                self.check_read_back(put(TAGGED, 2, vlan, rank), [7])
        self.check_read_back((1, 2, -1, 0, 0, 0, 7, 8, 65502, 0), [])

    def test_refusals_of_readframe(self):
        right = framed(RIGHT)
        for row in rows_that_are_not_bytes((64, 1526)) + rows_too_long(1526) + [[], right[:63]]:
            self.assertEqual(unwrap(row), [-1])
        for place in range(len(right)):
            for number in (-1, 256, LEAST, GREATEST):
                self.assertEqual(unwrap(put(right, place, number)), [-1])
            self.assertEqual(unwrap(put(right, place, right[place] ^ 1)), [-2])
        self.assertEqual(unwrap(sealed(plain_row(12) + [136, 168, 0, 1, 8, 0] + RIGHT)), [-3])
        self.assertEqual(unwrap(framed(RIGHT, kind=1535)), [-4])
        self.assertEqual(unwrap(framed(RIGHT, ONE_TAG, 33024)), [-4])
        self.assertEqual(unwrap(framed(around(plain_row(1481)))), [-5])
        self.assertEqual(unwrap(framed(around(plain_row(1481)), ONE_TAG)), [-5])

    def test_tags(self):
        self.assertEqual(unwrap(framed(RIGHT, [3, 0, 100]))[3:5], [100, 3])
        self.assertEqual(unwrap(framed(RIGHT, [3, 1, 100])), [-11])
        for first in (0, 1):
            for second in (0, 1):
                self.assertEqual(unwrap(framed(RIGHT, [3, first, 100, 0, second, 200])), [-11])

    def test_kind(self):
        for kind in (1536, 2047, 2049, 2054, 34525, 65535):
            self.assertEqual(unwrap(framed(RIGHT, kind=kind)), [-12])
            self.assertEqual(unwrap(framed(RIGHT, ONE_TAG, kind)), [-12])

    def test_body_shorter_than_told(self):
        for told in (len(RIGHT) + 1, len(RIGHT) + 256, 65535):
            self.check_refused(-13, summed(put(RIGHT, 2, *big(told, 2))))
        self.check_refused(-13, RIGHT[:-1])
        short = around(datagram_by_words(5, 6, 9, 10, []))
        self.assertEqual(unwrap(framed(summed(put(short, 3, 47)))), [-13])
        self.assertEqual(unwrap(framed(summed(put(short, 3, 43)), ONE_TAG)), [-13])

    def test_bytes_behind(self):
        self.check_refused(-14, RIGHT + [0])
        self.check_refused(-14, RIGHT + [0] * 40)
        self.check_refused(-14, RIGHT + [1])
        self.check_refused(-14, summed(put(RIGHT, 3, len(RIGHT) - 1)))
        short = around(datagram_by_words(5, 6, 9, 10, [1]))
        for tags, zeros in (((), 17), (ONE_TAG, 13)):
            right = short + [0] * zeros
            self.assertEqual(unwrap(framed(right, tags))[0], 0)
            self.assertEqual(unwrap(framed(right + [0], tags)), [-14])
            self.assertEqual(unwrap(framed(right + [0] * 200, tags)), [-14])
            for place in range(len(short), len(right)):
                for byte in (1, 255):
                    self.assertEqual(unwrap(framed(put(right, place, byte), tags)), [-14])
        # What the least body without a tag asks for is too much with one.
        self.assertEqual(unwrap(framed(short + [0] * 17, ONE_TAG)), [-14])

    def test_packet_too_short(self):
        for told in range(4, 20):
            self.check_refused(-21, put(RIGHT, 2, *big(told, 2))[:told])
        self.check_refused(-21, [0] * 42)
        self.check_refused(-21, [])
        # The told length itself stands where the bytes 0 would have to.
        for told in (1, 2, 3):
            self.check_refused(-14, [69, 0, 0, told])

    def test_refusals_of_readpacket(self):
        for byte in (0, 68, 70, 255):
            self.check_refused(-22, summed(put(RIGHT, 0, byte)))
        for place in (1, 4, 5, 6, 7, 8, 9, 10, 11, 12, 15, 16, 19):
            self.check_refused(-24, put(RIGHT, place, RIGHT[place] ^ 1))
        self.check_refused(-25, summed(put(RIGHT, 6, 64 + 128)))
        self.check_refused(-25, summed(put(RIGHT, 6, 128)))
        self.check_refused(-25, around(plain_row(24), more=1))
        self.check_refused(-25, around(INNER, offset=1))
        self.check_refused(-25, around(plain_row(23), keep=0, more=1))
        self.check_refused(-25, around(INNER, keep=0, offset=1000))

    def test_packets_of_another_sort(self):
        self.check_refused(-30, around(INNER, tos=1))
        self.check_refused(-30, around(INNER, tos=255))
        self.check_refused(-30, around(INNER, keep=0))
        self.check_refused(-30, around(plain_row(24), keep=0, more=1))
        self.check_refused(-30, around(INNER, keep=0, offset=5))
        for proto in (0, 1, 6, 16, 18, 255):
            self.check_refused(-30, around(INNER, proto=proto))

    def test_refusals_of_readdatagram(self):
        for length in range(8):
            self.check_refused(-41, around(INNER[:length]))
        self.check_refused(-42, around(INNER[:-1]))
        self.check_refused(-42, around(INNER + [0]))
        for told in (0, 8, 27, 29, 28 + 256, 65535):
            self.check_refused(-42, around(put(INNER, 4, *big(told, 2))))
        for place in (0, 1, 2, 3, 6, 7, 8, 27):
            self.check_refused(-43, around(put(INNER, place, INNER[place] ^ 1)))
        self.check_refused(-43, around(put(INNER, 6, 0, 0)))
        self.check_refused(-43, around(datagram_by_words(5, 7, 9, 10, plain_row(20))))
        self.check_refused(-43, around(datagram_by_words(4, 6, 9, 10, plain_row(20))))

    def test_sum_0_is_told_as_65535(self):
        inner = [255, 222, 0, 0, 0, 8, 255, 255]
        right = packet_by_words(0, 7, 1, 0, 0, 8, 17, 0, 0, inner)
        self.assertEqual(unwrap(framed(right)), [0, 1, 2, -1, 0, 0, 0, 7, 8, 65502, 0, 0])
        self.check_refused(-43, put(right, 26, 0, 0))

    def test_the_refusal_told_first(self):
        two = [0, 0, 1, 0, 0, 2]
        dropped = [3, 1, 100]
        long = around(plain_row(1481))
        check_answers(self, unwrap, [
            (-1, (put(framed(RIGHT), 0, 256),)),
            (-2, (put(sealed(plain_row(12) + [136, 168, 0, 1, 8, 0] + RIGHT), 0, 99),)),
            (-2, (put(framed(RIGHT, two), 0, 99),)),
            (-3, (sealed(plain_row(12) + [136, 168, 0, 1, 0, 0, 0, 0] + RIGHT),)),
            (-4, (framed(long, kind=1535),)),
            (-4, (framed(RIGHT, dropped, 1535),)),
            (-4, (framed(RIGHT, two, 1535),)),
            (-5, (framed(long, dropped),)),
            (-5, (framed(long, kind=2049),)),
            (-11, (framed(RIGHT, dropped, 2049),)),
            (-11, (framed(RIGHT, two, 2049),)),
            (-11, (framed([255] * 50, two),)),
            (-12, (framed([255] * 50, kind=2049),)),
            (-12, (framed(RIGHT + [1], kind=2049),)),
            (-13, (framed([0, 0, 255, 255] + [1] * 50),)),
            (-13, (framed(put(RIGHT, 0, 70)[:-1]),)),
            (-14, (framed(put(RIGHT, 2, 0, 19)),)),
            (-14, (framed(put(RIGHT, 0, 70) + [0]),)),
            (-21, (framed(put(RIGHT, 0, 70, 0, 0, 19)[:19]),)),
            (-22, (framed(put(RIGHT, 0, 70)),)),
            (-24, (framed(put(RIGHT, 6, 128)),)),
            (-24, (framed(put(RIGHT, 9, 6)),)),
            (-25, (framed(around(INNER, tos=1, offset=1)),)),
            (-25, (framed(around(INNER[:7], proto=6, more=1)),)),
            (-30, (framed(around(INNER[:7], tos=1)),)),
            (-30, (framed(around(INNER[:-1], keep=0)),)),
            (-30, (framed(around(put(INNER, 6, 0), proto=6)),)),
            (-41, (framed(around(put(INNER, 4, 9, 9)[:7])),)),
            (-42, (framed(around(put(INNER, 4, 9, 9, 9, 9))),)),
            (-43, (framed(around(put(INNER, 6, 0, 0))),)),
        ])

    def test_nothing_changed_or_kept(self):
        rows = [framed(RIGHT), framed(RIGHT, ONE_TAG), wrap_by_words(*BARE, []), wrap_by_words(*TAGGED, plain_row(1472)),
                [], [0] * 64, framed(RIGHT, [0, 1, 0]), framed(RIGHT, kind=2049), framed(RIGHT[:-1]),
                framed(RIGHT + [0]), framed([0] * 46), framed(put(RIGHT, 0, 0)), framed(put(RIGHT, 10, 0)),
                framed(around(INNER, tos=1)), framed(around([])), framed(around(INNER[:-1])),
                framed(around(put(INNER, 6, 0))), plain_row(10000), [GREATEST] * 10000, [LEAST] * 64]
        check_left_alone(self, unwrap, [(row,) for row in rows])


if __name__ == "__main__":
    unittest.main()
