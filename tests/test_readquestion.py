import inspect
import random
import unittest

from campuswires.wires import question, readquestion
from watched import GREATEST, LEAST, TOP_ADDRESS, TOP_HARDWARE, check_answers, check_left_alone, plain_row, put
from watched import question_by_words, rows_that_are_not_bytes, rows_too_long

RANGES = [(1, 2), (0, TOP_HARDWARE), (0, TOP_ADDRESS), (0, TOP_HARDWARE), (0, TOP_ADDRESS)]
RIGHT = question_by_words(1, 2, 3, 4, 5)


class ReadquestionTest(unittest.TestCase):
    def check_read_back(self, *numbers):
        self.assertEqual(readquestion(question_by_words(*numbers)), [0] + list(numbers))
        self.assertEqual(readquestion(question(*numbers)[2:]), [0] + list(numbers))

    def test_interface(self):
        self.assertEqual(list(inspect.signature(readquestion).parameters), ["b"])
        self.assertEqual(readquestion(b=RIGHT), [0, 1, 2, 3, 4, 5])

    def test_written_answer(self):
        row = [0, 1, 8, 0, 6, 4, 0, 2] + list(range(1, 21))
        self.assertEqual(readquestion(row), [0, 2, 0x010203040506, 0x0708090A, 0x0B0C0D0E0F10, 0x11121314])

    def test_read_back(self):
        source = random.Random(17)
        for turn in range(100):
            self.check_read_back(*[source.randrange(least, greatest + 1) for least, greatest in RANGES])

    def test_read_back_at_the_ends(self):
        for place, ends in enumerate(RANGES):
            for number in ends:
                self.check_read_back(*put((1, 2, 3, 4, 5), place, number))
        self.check_read_back(*[least for least, greatest in RANGES])
        self.check_read_back(*[greatest for least, greatest in RANGES])

    def test_lengths(self):
        for length in (0, 1, 7, 8, 26, 27):
            self.assertEqual(readquestion(RIGHT[:length]), [-1])
        for more in (1, 2, 28):
            self.assertEqual(readquestion(RIGHT + [0] * more), [-1])
        for row in rows_too_long(28):
            self.assertEqual(readquestion(row), [-1])

    def test_not_all_bytes(self):
        for row in rows_that_are_not_bytes((28,)):
            self.assertEqual(readquestion(row), [-1])
        for place in range(28):
            for number in (-1, 256, RIGHT[place] - 256, RIGHT[place] + 256, LEAST, GREATEST):
                self.assertEqual(readquestion(put(RIGHT, place, number)), [-1])

    def test_first_seven_bytes(self):
        for place in range(7):
            for byte in range(256):
                self.assertEqual(readquestion(put(RIGHT, place, byte))[0], 0 if byte == RIGHT[place] else -2)

    def test_eighth_byte(self):
        for byte in range(256):
            row = put(RIGHT, 7, byte)
            self.assertEqual(readquestion(row), [0, byte, 2, 3, 4, 5] if byte in (1, 2) else [-3])

    def test_other_bytes_are_free(self):
        for place in range(8, 28):
            for byte in (0, 255):
                self.assertEqual(readquestion(put(RIGHT, place, byte))[0], 0)

    def test_the_refusal_told_first(self):
        check_answers(self, readquestion, [
            (-1, (put(RIGHT, 0, 1)[:27],)),
            (-1, (put(RIGHT, 0, 256),)),
            (-1, (put(RIGHT, 7, 256),)),
            (-2, (put(RIGHT, 6, 1, 0),)),
            (-2, ([0] * 28,)),
            (-3, (put(RIGHT, 7, 0),)),
        ])

    def test_nothing_changed_or_kept(self):
        rows = [RIGHT, question_by_words(2, TOP_HARDWARE, TOP_ADDRESS, TOP_HARDWARE, TOP_ADDRESS), [], RIGHT[:27],
                RIGHT + [0], put(RIGHT, 0, 9), put(RIGHT, 7, 3), put(RIGHT, 27, 256), plain_row(10000),
                [GREATEST] * 10000, [LEAST] * 28]
        check_left_alone(self, readquestion, [(row,) for row in rows])


if __name__ == "__main__":
    unittest.main()
