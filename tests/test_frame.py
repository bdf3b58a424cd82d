import inspect
import random
import unittest

from campuswires.wires import frame
from watched import GREATEST, LEAST, TOP_HARDWARE, answered, check_answers, check_ends, check_left_alone
from watched import frame_by_words, plain_row, rows_that_are_not_bytes, rows_too_long

ONE_TAG = [3, 0, 100]
TWO_TAGS = [5, 1, 200, 0, 0, 4095]
BODY = plain_row(46)


class FrameTest(unittest.TestCase):
    def check_written(self, *handed):
        self.assertEqual(frame(*handed), answered(frame_by_words(*handed)))

    def test_interface(self):
        self.assertEqual(list(inspect.signature(frame).parameters), ["to", "sender", "kind", "tags", "body"])
        self.assertEqual(frame(body=BODY, tags=ONE_TAG, kind=2048, sender=2, to=1), frame(1, 2, 2048, ONE_TAG, BODY))

    def test_written_bytes_without_a_tag(self):
        answer = frame(0x010203040506, 0x0708090A0B0C, 0x0800, [], [0] * 46)
        self.assertEqual(answer[:2], [0, 64])
        self.assertEqual(answer[2:16], [1, 2, 3, 4, 5, 6, 7, 8, 9, 10, 11, 12, 8, 0])
        self.assertEqual(answer[16:62], [0] * 46)
        # 0x114D4E12, the lowest byte first.
        self.assertEqual(answer[62:], [0x12, 0x4E, 0x4D, 0x11])

    def test_written_bytes_with_one_tag(self):
        answer = frame(1, 256, 65535, [3, 1, 0x123], [255] * 42)
        self.assertEqual(answer[:2], [0, 64])
        self.assertEqual(answer[2:14], [0, 0, 0, 0, 0, 1, 0, 0, 0, 0, 1, 0])
        self.assertEqual(answer[14:20], [129, 0, 0x71, 0x23, 255, 255])
        self.assertEqual(answer[20:62], [255] * 42)
        self.assertEqual(len(answer), 66)

    def test_written_bytes_with_two_tags(self):
        answer = frame(1, 2, 1536, [7, 0, 1, 0, 1, 2], [9] * 38)
        self.assertEqual(answer[:2], [0, 64])
        self.assertEqual(answer[14:24], [136, 168, 0xE0, 1, 129, 0, 0x10, 2, 6, 0])
        self.assertEqual(answer[24:62], [9] * 38)
        self.assertEqual(len(answer), 66)

    def test_ordinary_frames(self):
        source = random.Random(4)
        for turn in range(60):
            tags = []
            for tag in range(turn % 3):
                tags += [source.randrange(8), source.randrange(2), source.randrange(4096)]
            body = [source.randrange(256) for place in range(source.randrange(46, 200))]
            self.check_written(source.randrange(2 ** 48), source.randrange(2 ** 48), source.randrange(1536, 33024),
                               tags, body)

    def test_ends_of_the_numbers(self):
        ranges = [(0, TOP_HARDWARE), (0, TOP_HARDWARE), (1536, 65535)]
        for tags in ([], ONE_TAG, TWO_TAGS):
            check_ends(self, frame, (1, 2, 2048, tags, BODY), ranges, -1)
        self.check_written(TOP_HARDWARE, 0, 1536, [], BODY)
        self.check_written(0, TOP_HARDWARE, 65535, [], BODY)

    def test_kinds_that_are_none(self):
        for kind in (33024, 34984, 1535, 65536, 0, -1, LEAST, GREATEST):
            for tags in ([], ONE_TAG, TWO_TAGS):
                self.assertEqual(frame(1, 2, kind, tags, BODY), [-1])
        for kind in (33023, 33025, 34983, 34985, 1536, 65535):
            self.check_written(1, 2, kind, ONE_TAG, BODY)

    def test_ends_of_the_tags(self):
        greatest = [7, 1, 4095, 7, 1, 4095]
        for tags in ([0] * 3, greatest[:3], [0] * 6, greatest):
            self.check_written(1, 2, 2048, tags, BODY)
        for count in (3, 6):
            for place in range(count):
                for number in (0, greatest[place]):
                    tags = [1] * count
                    tags[place] = number
                    self.check_written(1, 2, 2048, tags, BODY)
                for number in (-1, greatest[place] + 1, LEAST, GREATEST):
                    tags = [1] * count
                    tags[place] = number
                    self.assertEqual(frame(1, 2, 2048, tags, BODY), [-2])

    def test_tags_of_other_lengths(self):
        for count in (1, 2, 4, 5, 7, 8, 9, 12, 10000):
            self.assertEqual(frame(1, 2, 2048, [0] * count, BODY), [-2])
        self.assertEqual(frame(1, 2, 2048, [GREATEST] * 10000, BODY), [-2])

    def test_least_body(self):
        for tags, least in (([], 46), (ONE_TAG, 42), (TWO_TAGS, 38)):
            self.check_written(1, 2, 2048, tags, plain_row(least))
            self.assertEqual(frame(1, 2, 2048, tags, plain_row(least))[1], 64)
            for length in (least - 1, least - 4, 1, 0):
                self.assertEqual(frame(1, 2, 2048, tags, plain_row(length)), [-3])

    def test_longest_body(self):
        for tags, longest in (([], 1518), (ONE_TAG, 1522), (TWO_TAGS, 1526)):
            self.check_written(1, 2, 2048, tags, plain_row(1500))
            self.assertEqual(frame(1, 2, 2048, tags, plain_row(1500))[1], longest)
            for body in rows_too_long(1500):
                self.assertEqual(frame(1, 2, 2048, tags, body), [-3])

    def test_body_that_is_not_all_bytes(self):
        for body in rows_that_are_not_bytes((46, 47, 1500)):
            for tags in ([], ONE_TAG, TWO_TAGS):
                self.assertEqual(frame(1, 2, 2048, tags, body), [-3])

    def test_the_refusal_told_first(self):
        check_answers(self, frame, [
            (-1, (TOP_HARDWARE + 1, 2, 2048, [1], BODY)),
            (-1, (1, -1, 2048, [8, 0, 0], BODY)),
            (-1, (1, 2, 33024, [1, 2], [])),
            (-1, (1, 2, 1535, [], [256] * 46)),
            (-2, (1, 2, 2048, [1], [])),
            (-2, (1, 2, 2048, [0, 2, 0], [256] * 46)),
            (-2, (1, 2, 2048, [0, 0, 0, 0, 0, 4096], plain_row(1501))),
        ])

    def test_nothing_changed_or_kept(self):
        check_left_alone(self, frame, [
            (1, 2, 2048, [], BODY), (1, 2, 2048, ONE_TAG, BODY), (1, 2, 2048, TWO_TAGS, plain_row(1500)),
            (-1, 2, 2048, [], BODY), (1, 2, 2048, [1], BODY), (1, 2, 2048, [8, 0, 0], BODY),
            (1, 2, 2048, [], []), (1, 2, 2048, [], [256] * 46), (1, 2, 2048, [0] * 10000, plain_row(10000)),
            (GREATEST, LEAST, GREATEST, [LEAST] * 6, [GREATEST] * 10000),
        ])


if __name__ == "__main__":
    unittest.main()
