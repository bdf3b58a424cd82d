import inspect
import random
import unittest

from campuswires.wires import question
from watched import GREATEST, LEAST, TOP_ADDRESS, TOP_HARDWARE, answered, check_ends, check_left_alone, put
from watched import question_by_words

NAMES = ["op", "hw", "address", "sought_hw", "sought_address"]
RIGHT = (1, 2, 3, 4, 5)
RANGES = [(1, 2), (0, TOP_HARDWARE), (0, TOP_ADDRESS), (0, TOP_HARDWARE), (0, TOP_ADDRESS)]


class QuestionTest(unittest.TestCase):
    def check_written(self, *numbers):
        self.assertEqual(question(*numbers), answered(question_by_words(*numbers)))

    def test_interface(self):
        self.assertEqual(list(inspect.signature(question).parameters), NAMES)
        self.assertEqual(question(**dict(zip(NAMES, RIGHT))), question(*RIGHT))

    def test_written_bytes(self):
        answer = question(2, 0x010203040506, 0x0708090A, 0x0B0C0D0E0F10, 0x11121314)
        self.assertEqual(answer, [0, 28, 0, 1, 8, 0, 6, 4, 0, 2] + list(range(1, 21)))
        self.assertEqual(question(1, 0, 0, 0, 0), [0, 28, 0, 1, 8, 0, 6, 4, 0, 1] + [0] * 20)

    def test_ordinary_questions(self):
        source = random.Random(16)
        for turn in range(100):
            self.check_written(*[source.randrange(least, greatest + 1) for least, greatest in RANGES])

    def test_ends_of_the_numbers(self):
        check_ends(self, question, RIGHT, RANGES, -1)
        self.check_written(*[least for least, greatest in RANGES])
        self.check_written(*[greatest for least, greatest in RANGES])
        for place, ends in enumerate(RANGES):
            for number in ends:
                self.check_written(*put(RIGHT, place, number))

    def test_an_address_is_no_hardware_number(self):
        self.check_written(1, TOP_ADDRESS + 1, 0, TOP_ADDRESS + 1, 0)
        self.assertEqual(question(1, 0, TOP_HARDWARE, 0, 0), [-1])
        self.assertEqual(question(1, 0, 0, 0, TOP_HARDWARE), [-1])

    def test_several_numbers_out_of_their_ranges(self):
        self.assertEqual(question(0, -1, -1, -1, -1), [-1])
        self.assertEqual(question(3, GREATEST, LEAST, GREATEST, LEAST), [-1])

    def test_nothing_changed_or_kept(self):
        check_left_alone(self, question, [
            RIGHT, (2, TOP_HARDWARE, TOP_ADDRESS, TOP_HARDWARE, TOP_ADDRESS), (0, 0, 0, 0, 0), (3, 0, 0, 0, 0),
            (1, -1, 0, 0, 0), (1, 0, TOP_ADDRESS + 1, 0, 0), (GREATEST, LEAST, GREATEST, LEAST, GREATEST),
        ])


if __name__ == "__main__":
    unittest.main()
