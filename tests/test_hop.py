import inspect
import random
import unittest

from campuswires.wires import hop, readpacket
from watched import GREATEST, LEAST, TOP_ADDRESS, answered, check_answers, check_left_alone, packet_by_words
from watched import plain_row, put, rows_that_are_not_bytes, rows_too_long, summed


def with_hops(hops, body=(1, 2, 3)):
    return packet_by_words(1, 2, 0, 0, 3, hops, 17, 5, 6, list(body))


def with_sum(told, hops, proto):
    """A packet whose sum is the one told: its id takes what the rest leaves over."""
    rest = packet_by_words(0, 0, 0, 0, 0, hops, proto, 0, 0, [])
    ident = (rest[10] * 256 + rest[11] - told) % 65535
    return packet_by_words(0, ident, 0, 0, 0, hops, proto, 0, 0, [])


class HopTest(unittest.TestCase):
    def check_hop(self, row):
        """All is as it was, but hops is one less and the sum is the sum of the new head."""
        expected = summed(put(row, 8, row[8] - 1))
        self.assertEqual(hop(row), answered(expected))
        self.assertEqual(readpacket(hop(row)[2:])[0], 0)

    def test_interface(self):
        self.assertEqual(list(inspect.signature(hop).parameters), ["b"])
        self.assertEqual(hop(b=with_hops(9)), answered(with_hops(8)))

    def test_written_answer(self):
        head = [69, 0, 0, 21, 0, 0, 64, 0, 64, 17, 0xB8, 0xBF, 192, 168, 0, 1, 192, 168, 0, 199]
        after = [69, 0, 0, 21, 0, 0, 64, 0, 63, 17, 0xB9, 0xBF, 192, 168, 0, 1, 192, 168, 0, 199]
        self.assertEqual(hop(head + [7]), [0, 21] + after + [7])

    def test_each_count_of_hops(self):
        self.assertEqual(hop(with_hops(0)), [-6])
        self.assertEqual(hop(with_hops(1)), [-6])
        for hops in range(2, 256):
            self.assertEqual(hop(with_hops(hops)), answered(with_hops(hops - 1)))

    def test_down_to_the_last_hop(self):
        row = with_hops(255, plain_row(40))
        for left in range(254, 0, -1):
            row = hop(row)[2:]
            self.assertEqual(row, with_hops(left, plain_row(40)))
        self.assertEqual(hop(row), [-6])

    def test_each_sum_near_the_ends(self):
        # The head's first byte isn't 0, so a sum of 65535 is never told: 65534 is the greatest.
        near = list(range(0, 520)) + list(range(65535 - 520, 65535)) + list(range(520, 65000, 997))
        for told in near:
            for hops, proto in ((2, 0), (2, 255), (64, 17), (255, 255)):
                row = with_sum(told, hops, proto)
                self.assertEqual(row[10] * 256 + row[11], told)
                self.check_hop(row)

    def test_sum_of_65535_is_no_sum(self):
        row = with_sum(0, 64, 17)
        self.assertEqual(hop(put(row, 10, 255, 255)), [-4])

    def test_ordinary_packets(self):
        source = random.Random(8)
        for turn in range(200):
            keep, more = [(0, 0), (1, 0), (0, 1)][turn % 3]
            body = [source.randrange(256) for place in range(8 * source.randrange(1, 30))]
            self.check_hop(packet_by_words(source.randrange(256), source.randrange(65536), keep, more,
                                           0 if keep else source.randrange(700), source.randrange(2, 256),
                                           source.randrange(256), source.randrange(2 ** 32),
                                           source.randrange(2 ** 32), body))

    def test_lengths(self):
        self.check_hop(with_hops(9, []))
        self.check_hop(packet_by_words(255, 65535, 1, 0, 0, 255, 255, TOP_ADDRESS, TOP_ADDRESS, [255] * 8000))
        self.assertEqual(hop(with_hops(9, [])[:19]), [-1])
        for row in rows_too_long(8020):
            self.assertEqual(hop(row), [-1])

    def test_refusals_of_readpacket(self):
        for row in rows_that_are_not_bytes((20, 8020)):
            self.assertEqual(hop(row), [-1])
        right = with_hops(9)
        for place in range(len(right)):
            for number in (-1, 256, LEAST, GREATEST):
                self.assertEqual(hop(put(right, place, number)), [-1])
        self.assertEqual(hop(summed(put(right, 0, 70))), [-2])
        self.assertEqual(hop(right + [0]), [-3])
        self.assertEqual(hop(put(right, 11, right[11] ^ 1)), [-4])
        self.assertEqual(hop(summed(put(right, 6, 128))), [-5])
        self.assertEqual(hop(packet_by_words(0, 0, 1, 1, 0, 9, 0, 0, 0, plain_row(8))), [-5])

    def test_the_refusal_told_first(self):
        none_left = with_hops(1)
        check_answers(self, hop, [
            (-1, (put(none_left, 0, 256),)),
            (-1, (put(none_left, 0, 70)[:19],)),
            (-2, (put(none_left, 0, 70) + [0],)),
            (-3, (put(none_left, 11, none_left[11] ^ 1) + [0],)),
            (-4, (put(none_left, 6, 128),)),
            (-4, (put(with_hops(2), 8, 1),)),
            (-5, (summed(put(none_left, 6, 128)),)),
            (-5, (summed(put(with_hops(0), 6, 255)),)),
            (-6, (none_left,)),
        ])

    def test_nothing_changed_or_kept(self):
        right = with_hops(9)
        rows = [right, with_hops(2, plain_row(800)), with_hops(255, plain_row(7976)), with_hops(0), with_hops(1), [],
                right[:19], put(right, 0, 0), right + [0], put(right, 10, 0), summed(put(right, 6, 128)),
                plain_row(10000), [GREATEST] * 10000, [LEAST] * 20]
        check_left_alone(self, hop, [(row,) for row in rows])


if __name__ == "__main__":
    unittest.main()
