import inspect
import random
import unittest

from campuswires.wires import datagram, frame, packet, wrap
from watched import GREATEST, LEAST, TOP_ADDRESS, TOP_HARDWARE, answered, check_answers, check_ends, check_left_alone
from watched import plain_row, put, rows_that_are_not_bytes, rows_too_long, sealed, wrap_by_words

NAMES = ["to", "sender", "vlan", "rank", "source", "goal", "ident", "hops", "sport", "dport", "body"]
BARE = (1, 2, -1, 0, 5, 6, 7, 8, 9, 10)
TAGGED = (1, 2, 100, 3, 5, 6, 7, 8, 9, 10)
RANGES = [(0, TOP_HARDWARE), (0, TOP_HARDWARE), (-1, 4095), (0, 7), (0, TOP_ADDRESS), (0, TOP_ADDRESS), (0, 65535),
          (0, 255), (0, 65535), (0, 65535)]


class WrapTest(unittest.TestCase):
    def check_written(self, numbers, body):
        self.assertEqual(wrap(*numbers, body), answered(wrap_by_words(*numbers, body)))

    def test_interface(self):
        self.assertEqual(list(inspect.signature(wrap).parameters), NAMES)
        self.assertEqual(wrap(**dict(zip(NAMES, TAGGED + ([7],)))), wrap(*TAGGED, [7]))

    def test_written_bytes(self):
        head = [69, 0, 0, 30, 0x0D, 0x0E, 64, 0, 15, 17, 0, 0, 16, 17, 18, 19, 20, 21, 22, 23]
        # 0x4500 + 30 + 0x0D0E + 0x4000 + 0x0F11 + 0x1011 + 0x1213 + 0x1415 + 0x1617 = 0xED8D
        head[10:12] = [0x12, 0x72]
        # 0x1011 + 0x1213 + 0x1415 + 0x1617 + 17 + 10 + 0x1819 + 0x1A1B + 10 + 0x1C1D = 0x9AC6
        inner = [0x18, 0x19, 0x1A, 0x1B, 0, 10, 0x65, 0x39, 0x1C, 0x1D]
        numbers = (0x010203040506, 0x0708090A0B0C, -1, 0, 0x10111213, 0x14151617, 0x0D0E, 15, 0x1819, 0x1A1B)
        row = sealed(list(range(1, 13)) + [8, 0] + head + inner + [0] * 16)
        self.assertEqual(wrap(*numbers, [0x1C, 0x1D]), [0, 64] + row)
        row = sealed(list(range(1, 13)) + [129, 0, 0xA1, 0x23, 8, 0] + head + inner + [0] * 12)
        self.assertEqual(wrap(*put(numbers, 2, 0x123, 5), [0x1C, 0x1D]), [0, 64] + row)

    def test_of_the_other_calls(self):
        for length in (0, 17, 18, 19, 400):
            inner = datagram(5, 6, 9, 10, plain_row(length))[2:]
            row = packet(0, 7, 1, 0, 0, 8, 17, 5, 6, inner)[2:]
            self.assertEqual(wrap(*BARE, plain_row(length)), frame(1, 2, 2048, [], row + [0] * (46 - len(row))))
            self.assertEqual(wrap(*TAGGED, plain_row(length)),
                             frame(1, 2, 2048, [3, 0, 100], row + [0] * (42 - len(row))))

    def test_lengths_of_the_body(self):
        for numbers, enough, around in ((BARE, 18, 46), (TAGGED, 14, 50)):
            for length in range(enough + 3):
                self.check_written(numbers, plain_row(length))
                self.assertEqual(wrap(*numbers, plain_row(length))[1], max(64, around + length))
            for length in (1471, 1472):
                self.check_written(numbers, plain_row(length))
                self.assertEqual(wrap(*numbers, plain_row(length))[1], around + length)
            for body in rows_too_long(1472):
                self.assertEqual(wrap(*numbers, body), [-2])

    def test_zeros_behind(self):
        self.assertEqual(wrap(*BARE, [255] * 18)[2 + 14 + 28:-4], [255] * 18)
        self.assertEqual(wrap(*BARE, [255] * 17)[2 + 14 + 28:-4], [255] * 17 + [0])
        self.assertEqual(wrap(*BARE, [])[2 + 14 + 28:-4], [0] * 18)
        self.assertEqual(wrap(*TAGGED, [255] * 14)[2 + 18 + 28:-4], [255] * 14)
        self.assertEqual(wrap(*TAGGED, [255] * 13)[2 + 18 + 28:-4], [255] * 13 + [0])
        self.assertEqual(wrap(*TAGGED, [])[2 + 18 + 28:-4], [0] * 14)

    def test_body_that_is_not_all_bytes(self):
        for body in rows_that_are_not_bytes((1, 18, 1472)):
            self.assertEqual(wrap(*BARE, body), [-2])
            self.assertEqual(wrap(*TAGGED, body), [-2])

    def test_vlan(self):
        for vlan in (0, 1, 4094, 4095):
            for rank in (0, 1, 7):
                self.check_written(put(TAGGED, 2, vlan, rank), [7])
        for vlan in (-2, 4096, LEAST, GREATEST):
            for rank in (0, 1, 7):
                self.assertEqual(wrap(*put(TAGGED, 2, vlan, rank), [7]), [-1])
        self.check_written(BARE, [7])

    def test_rank(self):
        for vlan in (0, 100, 4095):
            for rank in (-1, 8, LEAST, GREATEST):
                self.assertEqual(wrap(*put(TAGGED, 2, vlan, rank), [7]), [-1])
        for rank in (1, 7, -1, 8, LEAST, GREATEST):
            self.assertEqual(wrap(*put(BARE, 3, rank), [7]), [-1])

    def test_ends_of_the_numbers(self):
        check_ends(self, lambda to, sender, *others: wrap(to, sender, -1, 0, *others, [7]),
                   BARE[:2] + BARE[4:], RANGES[:2] + RANGES[4:], -1)
        check_ends(self, lambda *numbers: wrap(*numbers, [7]), TAGGED, put(RANGES, 2, (0, 4095)), -1)
        for place in (0, 1, 4, 5, 6, 7, 8, 9):
            for number in RANGES[place]:
                self.check_written(put(BARE, place, number), [7])
                self.check_written(put(TAGGED, place, number), [7])
        self.check_written([greatest for least, greatest in RANGES], [255] * 1472)
        self.check_written(put([0] * 10, 2, -1), [])

    def test_ordinary_frames(self):
        source = random.Random(18)
        for turn in range(100):
            numbers = [source.randrange(least, greatest + 1) for least, greatest in RANGES]
            if turn % 3 == 0:
                numbers[2:4] = [-1, 0]
            if numbers[2] == -1:
                numbers[3] = 0
            self.check_written(numbers, [source.randrange(256) for place in range(source.randrange(60))])

    def test_inner_sum_that_would_be_0(self):
        numbers = (1, 2, -1, 0, 0, 0, 7, 8, 65502, 0)
        self.assertEqual(wrap(*numbers, [])[2 + 14 + 20:2 + 14 + 28], [255, 222, 0, 0, 0, 8, 255, 255])
        self.check_written(numbers, [])

    def test_the_refusal_told_first(self):
        check_answers(self, wrap, [
            (-1, put(BARE, 0, -1) + [[256]]),
            (-1, put(BARE, 3, 1) + [plain_row(1473)]),
            (-1, put(TAGGED, 2, 4096) + [[-1]]),
            (-1, put(TAGGED, 9, 65536) + [[GREATEST] * 10000]),
            (-2, BARE + ([256],)),
        ])

    def test_nothing_changed_or_kept(self):
        check_left_alone(self, wrap, [
            BARE + ([],), TAGGED + ([],), BARE + (plain_row(18),), TAGGED + (plain_row(1472),),
            TAGGED + (plain_row(1473),), BARE + ([256],), BARE + (plain_row(10000),), put(BARE, 3, 1) + [[7]],
            put(TAGGED, 2, -2) + [[7]], (GREATEST, LEAST) * 5 + ([GREATEST] * 10000,),
            (LEAST, GREATEST) * 5 + ([LEAST],),
        ])


if __name__ == "__main__":
    unittest.main()
