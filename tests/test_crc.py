import inspect
import random
import unittest
import zlib

from campuswires.wires import crc
from watched import check_row_left_alone, check_row_refusals, plain_row


def check_number_by_words(row):
    """The document's words, step by step, on a list of bits with the lowest first."""
    pattern = [3988292384 >> k & 1 for k in range(32)]
    bits = [1] * 32
    for byte in row:
        for k in range(8):
            bits[k] ^= byte >> k & 1
        for turn in range(8):
            odd = bits[0]
            bits = bits[1:] + [0]
            if odd:
                bits = [x ^ y for x, y in zip(bits, pattern)]
    return sum((1 - bit) << k for k, bit in enumerate(bits))


class CrcTest(unittest.TestCase):
    def test_interface(self):
        self.assertEqual(list(inspect.signature(crc).parameters), ["b"])
        self.assertEqual(crc(b=[97]), [0, 3904355907])

    def test_empty_row(self):
        self.assertEqual(crc([]), [0, 0])

    def test_written_answers(self):
        self.assertEqual(crc([0]), [0, 3523407757])
        self.assertEqual(crc([255]), [0, 4278190080])
        self.assertEqual(crc([255] * 4), [0, 4294967295])
        self.assertEqual(crc([0] * 4), [0, 558161692])
        self.assertEqual(crc([49, 50, 51, 52, 53, 54, 55, 56, 57]), [0, 3421780262])

    def test_each_byte_alone(self):
        for byte in range(256):
            self.assertEqual(crc([byte]), [0, check_number_by_words([byte])])

    def test_ordinary_rows(self):
        source = random.Random(1)
        for length in list(range(2, 40)) + [255, 256, 1500]:
            row = [source.randrange(256) for place in range(length)]
            answer = crc(row)
            self.assertEqual(answer, [0, check_number_by_words(row)])
            self.assertEqual(answer, [0, zlib.crc32(bytes(row))])

    def test_order_matters(self):
        self.assertNotEqual(crc([1, 2]), crc([2, 1]))

    def test_zeros_count(self):
        self.assertNotEqual(crc([1]), crc([1, 0]))
        self.assertNotEqual(crc([1]), crc([0, 1]))

    def test_longest_row(self):
        for row in (plain_row(9000), [0] * 9000, [255] * 9000, plain_row(8999)):
            answer = crc(row)
            self.assertEqual(answer, [0, zlib.crc32(bytes(row))])
            self.assertEqual([type(answer)] + [type(number) for number in answer], [list, int, int])

    def test_refusals(self):
        check_row_refusals(self, crc)

    def test_nothing_changed_or_kept(self):
        check_row_left_alone(self, crc)


if __name__ == "__main__":
    unittest.main()
