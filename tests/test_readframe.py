import inspect
import random
import unittest

from campuswires.wires import frame, readframe
from watched import GREATEST, LEAST, TOP_HARDWARE, check_answers, check_left_alone, frame_by_words
from watched import big, plain_row, put, rows_that_are_not_bytes, rows_too_long, sealed

ONE_TAG = [3, 0, 100]
TWO_TAGS = [5, 1, 200, 0, 0, 4095]
ADDRESSES = plain_row(12)
TWO_MARK = [136, 168]
ONE_MARK = [129, 0]


def bare(middle, length):
    """A frame of that length with a right check number, the middle standing behind the two addresses."""
    row = ADDRESSES + middle
    return sealed(row + plain_row(length - len(row) - 4))


class ReadframeTest(unittest.TestCase):
    def check_read_back(self, to, sender, kind, tags, body):
        written = frame(to, sender, kind, tags, body)
        told = [0, to, sender, kind, len(tags) // 3] + tags + [len(body)] + body
        self.assertEqual(readframe(written[2:]), told)
        self.assertEqual(readframe(frame_by_words(to, sender, kind, tags, body)), told)

    def test_interface(self):
        self.assertEqual(list(inspect.signature(readframe).parameters), ["b"])
        row = frame_by_words(1, 2, 2048, [], [7] * 46)
        self.assertEqual(readframe(b=row), [0, 1, 2, 2048, 0, 46] + [7] * 46)

    def test_written_answers(self):
        row = sealed([1, 2, 3, 4, 5, 6, 0, 0, 0, 0, 1, 0, 129, 0, 0x71, 0x23, 8, 6] + [255] * 42)
        self.assertEqual(readframe(row), [0, 0x010203040506, 256, 2054, 1, 3, 1, 0x123, 42] + [255] * 42)
        row = sealed([0] * 12 + [136, 168, 0xE0, 1, 129, 0, 0x10, 2, 6, 0] + [9] * 38)
        self.assertEqual(readframe(row), [0, 0, 0, 1536, 2, 7, 0, 1, 0, 1, 2, 38] + [9] * 38)

    def test_read_back(self):
        source = random.Random(5)
        for turn in range(60):
            tags = []
            for tag in range(turn % 3):
                tags += [source.randrange(8), source.randrange(2), source.randrange(4096)]
            body = [source.randrange(256) for place in range(source.randrange(46, 200))]
            self.check_read_back(source.randrange(2 ** 48), source.randrange(2 ** 48),
                                 source.randrange(34985, 65536), tags, body)

    def test_read_back_at_the_ends(self):
        for tags, least in (([], 46), ([0] * 3, 42), ([7, 1, 4095], 42), ([0] * 6, 38), ([7, 1, 4095] * 2, 38)):
            for kind in (1536, 33023, 33025, 34983, 34985, 65535):
                self.check_read_back(0, TOP_HARDWARE, kind, tags, plain_row(least))
                self.check_read_back(TOP_HARDWARE, 0, kind, tags, plain_row(1500))

    def test_what_is_read_is_what_would_be_written(self):
        for length in range(64, 80):
            for middle in ([8, 0], ONE_MARK + [255, 255, 8, 0], TWO_MARK + [1, 2] + ONE_MARK + [3, 4, 8, 0]):
                row = bare(middle, length)
                told = readframe(row)
                self.assertEqual(told[0], 0)
                count = told[4]
                written = frame(told[1], told[2], told[3], told[5:5 + 3 * count], told[6 + 3 * count:])
                self.assertEqual(written, [0, length] + row)

    def test_lengths(self):
        two = TWO_MARK + [1, 2] + ONE_MARK + [3, 4, 8, 0]
        for length in (0, 1, 4, 16, 63):
            self.assertEqual(readframe(bare([8, 0], 64)[:length]), [-1])
            self.assertEqual(readframe(sealed(plain_row(max(length - 4, 0)))), [-1])
        for length in (64, 65, 1525, 1526):
            self.assertEqual(readframe(bare(two, length))[:12], [0] + readframe(bare(two, 64))[1:11] + [length - 26])
        self.assertEqual(readframe(bare(two, 1527)), [-1])
        for row in rows_too_long(1526):
            self.assertEqual(readframe(row), [-1])

    def test_no_body_shorter_than_the_least_gets_through(self):
        # 64 bytes leave just the least body for each count of tags, so the length alone refuses less.
        for middle, count, least in (([8, 0], 0, 46), (ONE_MARK + [0, 1, 8, 0], 1, 42),
                                     (TWO_MARK + [0, 1] + ONE_MARK + [0, 2, 8, 0], 2, 38)):
            told = readframe(bare(middle, 64))
            self.assertEqual((told[0], told[4], told[5 + 3 * count]), (0, count, least))
            self.assertEqual(readframe(bare(middle, 63)), [-1])

    def test_not_all_bytes(self):
        for row in rows_that_are_not_bytes((64, 65, 1526)):
            self.assertEqual(readframe(row), [-1])
        right = bare([8, 0], 64)
        for place in range(64):
            for number in (-1, 256, right[place] - 256, right[place] + 256, LEAST, GREATEST):
                self.assertEqual(readframe(put(right, place, number)), [-1])

    def test_check_number(self):
        right = bare([8, 0], 70)
        self.assertEqual(readframe(right)[0], 0)
        for place in range(70):
            for change in (1, 128):
                self.assertEqual(readframe(put(right, place, right[place] ^ change)), [-2])
        self.assertEqual(readframe(right[:-4] + right[:-5:-1]), [-2])
        self.assertEqual(readframe([0] * 64), [-2])

    def test_first_mark_without_the_second(self):
        for second in ([129, 1], [128, 0], [0, 129], [136, 168], [8, 0], [0, 0]):
            self.assertEqual(readframe(bare(TWO_MARK + [1, 2] + second + [3, 4, 8, 0], 64)), [-3])
        self.assertEqual(readframe(bare(TWO_MARK + [1, 2] + ONE_MARK + [3, 4, 8, 0], 64))[0], 0)
        self.assertEqual(readframe(bare(TWO_MARK + ONE_MARK + [1, 2, 3, 4, 8, 0], 64)), [-3])

    def test_no_kind(self):
        for kind in (0, 1, 46, 1500, 1535, 33024, 34984):
            one = ONE_MARK + [1, 2] + big(kind, 2)
            two = TWO_MARK + [1, 2] + ONE_MARK + [3, 4] + big(kind, 2)
            self.assertEqual(readframe(bare(one, 64)), [-4])
            self.assertEqual(readframe(bare(two, 64)), [-4])
            if kind < 1536:
                self.assertEqual(readframe(bare(big(kind, 2), 64)), [-4])
        for kind in (1536, 65535):
            self.assertEqual(readframe(bare(big(kind, 2), 64))[3], kind)

    def test_body_too_long(self):
        one = ONE_MARK + [1, 2, 8, 0]
        for middle, longest in (([8, 0], 1518), (one, 1522)):
            self.assertEqual(readframe(bare(middle, longest))[0], 0)
            for length in (longest + 1, longest + 2, 1526):
                self.assertEqual(readframe(bare(middle, length)), [-5])

    def test_the_refusal_told_first(self):
        check_answers(self, readframe, [
            (-1, ([256] + bare([8, 0], 64)[1:],)),
            (-1, (bare([8, 0], 64)[:63],)),
            (-1, ([0] * 1527,)),
            (-2, (put(bare(TWO_MARK + [1, 2, 3, 4, 5, 6], 64), 63, 0),)),
            (-2, (put(bare([0, 0], 64), 63, 0),)),
            (-3, (bare(TWO_MARK + [1, 2, 3, 4, 0, 0, 0, 0], 64),)),
            (-3, (bare(TWO_MARK + [0] * 10, 1526),)),
            (-4, (bare([0, 0], 1519),)),
            (-4, (bare(ONE_MARK + [1, 2, 0, 0], 1526),)),
        ])

    def test_nothing_changed_or_kept(self):
        two = TWO_MARK + [1, 2] + ONE_MARK + [3, 4, 8, 0]
        rows = [bare([8, 0], 64), bare(ONE_MARK + [1, 2, 8, 0], 100), bare(two, 1526), [], [0] * 64, [256] * 64,
                bare(TWO_MARK + [1] * 8, 64), bare([0, 0], 64), bare([8, 0], 1519), plain_row(10000),
                [GREATEST] * 10000, [LEAST] * 64]
        check_left_alone(self, readframe, [(row,) for row in rows])


if __name__ == "__main__":
    unittest.main()
