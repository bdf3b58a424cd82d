import inspect
import random
import unittest

from campuswires.wires import sum_of
from watched import check_row_left_alone, check_row_refusals, plain_row, sum_by_words


class SumOfTest(unittest.TestCase):
    def test_interface(self):
        self.assertEqual(list(inspect.signature(sum_of).parameters), ["b"])
        self.assertEqual(sum_of(b=[1, 2]), [0, 65535 - 258])

    def test_empty_row(self):
        self.assertEqual(sum_of([]), [0, 65535])

    def test_even_lengths(self):
        self.assertEqual(sum_of([0, 1]), [0, 65534])
        self.assertEqual(sum_of([1, 0]), [0, 65279])
        self.assertEqual(sum_of([1, 2, 3, 4]), [0, 65535 - 258 - 772])
        head = [69, 0, 0, 115, 0, 0, 64, 0, 64, 17, 0, 0, 192, 168, 0, 1, 192, 168, 0, 199]
        self.assertEqual(sum_of(head), [0, 47201])

    def test_odd_lengths(self):
        self.assertEqual(sum_of([1]), [0, 65279])
        self.assertEqual(sum_of([255]), [0, 255])
        self.assertEqual(sum_of([1, 2, 3]), [0, 65535 - 258 - 768])
        for length in (1, 3, 9, 8999):
            self.assertEqual(sum_of(plain_row(length)), sum_of(plain_row(length) + [0]))

    def test_past_65535(self):
        self.assertEqual(sum_of([255, 255, 0, 1]), [0, 65534])
        self.assertEqual(sum_of([255, 254] * 3), [0, 65535 - 65532])
        self.assertEqual(sum_of([128, 0] * 5), [0, 65535 - 32770])

    def test_folded_again_where_the_first_fold_goes_past(self):
        # 65535 + 65535 + 1 is 131071: folded once 65536, folded again 1.
        self.assertEqual(sum_of([255, 255, 255, 255, 0, 1]), [0, 65534])

    def test_all_zero(self):
        for length in (1, 2, 7, 9000):
            self.assertEqual(sum_of([0] * length), [0, 65535])

    def test_all_255(self):
        for length in (2, 4, 100, 9000):
            self.assertEqual(sum_of([255] * length), [0, 0])
        for length in (3, 101, 8999):
            self.assertEqual(sum_of([255] * length), [0, 255])

    def test_ordinary_rows(self):
        source = random.Random(2)
        for length in list(range(1, 60)) + [1499, 1500, 8999, 9000]:
            row = [source.randrange(256) for place in range(length)]
            answer = sum_of(row)
            self.assertEqual(answer, [0, sum_by_words(row)])
            self.assertEqual([type(answer)] + [type(number) for number in answer], [list, int, int])

    def test_refusals(self):
        check_row_refusals(self, sum_of)

    def test_nothing_changed_or_kept(self):
        check_row_left_alone(self, sum_of)


if __name__ == "__main__":
    unittest.main()
