import inspect
import random
import unittest

from campuswires.wires import cut
from watched import GREATEST, LEAST, check_answers, check_left_alone, packet_by_words, plain_row, put
from watched import rows_that_are_not_bytes, rows_too_long, summed


def made(keep, more, offset, body):
    return packet_by_words(1, 2, keep, more, offset, 64, 17, 5, 6, body)


def answered_pieces(pieces):
    answer = [0, len(pieces)]
    for piece in pieces:
        answer += [len(piece)] + piece
    return answer


def cut_by_words(most, more, offset, body):
    """The pieces of made(0, more, offset, body), if it is longer than most."""
    m = most - 20
    while m % 8 != 0:
        m -= 1
    rows = [body[start:start + m] for start in range(0, len(body), m)]
    pieces = [made(0, 1, offset + i * m // 8, row) for i, row in enumerate(rows[:-1])]
    return answered_pieces(pieces + [made(0, more, offset + (len(rows) - 1) * m // 8, rows[-1])])


class CutTest(unittest.TestCase):
    def check_cut(self, most, more, offset, body):
        self.assertEqual(cut(most, made(0, more, offset, body)), cut_by_words(most, more, offset, body))

    def test_interface(self):
        self.assertEqual(list(inspect.signature(cut).parameters), ["most", "b"])
        row = made(0, 0, 0, plain_row(16))
        self.assertEqual(cut(b=row, most=36), answered_pieces([row]))

    def test_written_answer(self):
        pieces = [made(0, 1, 3, [1, 2, 3, 4, 5, 6, 7, 8]), made(0, 1, 4, [9, 10, 11, 12, 13, 14, 15, 16]),
                  made(0, 0, 5, [17])]
        self.assertEqual(cut(28, made(0, 0, 3, list(range(1, 18)))), answered_pieces(pieces))
        self.assertEqual(cut(35, made(0, 0, 3, list(range(1, 18)))), answered_pieces(pieces))

    def test_most_out_of_its_range(self):
        for row in (made(0, 0, 0, []), made(0, 0, 0, plain_row(100)), made(1, 0, 0, plain_row(100))):
            for most in (27, 20, 0, -1, 65536, LEAST, GREATEST):
                self.assertEqual(cut(most, row), [-6])
        self.check_cut(28, 0, 0, plain_row(100))
        for length in (0, 100, 8000):
            row = made(0, 0, 0, plain_row(length))
            self.assertEqual(cut(65535, row), answered_pieces([row]))

    def test_not_longer_than_most(self):
        for keep, more, offset in ((0, 0, 0), (1, 0, 0), (0, 1, 5), (0, 0, 5)):
            row = made(keep, more, offset, plain_row(80))
            for most in (100, 101, 65535):
                self.assertEqual(cut(most, row), answered_pieces([row]))

    def test_one_longer_than_most(self):
        for most in range(28, 80):
            row = made(0, 0, 0, plain_row(most - 20))
            self.assertEqual(cut(most, row), answered_pieces([row]))
            self.check_cut(most, 0, 0, plain_row(most - 19))

    def test_keep(self):
        row = made(1, 0, 0, plain_row(80))
        self.assertEqual(cut(100, row), answered_pieces([row]))
        self.assertEqual(cut(99, row), [-7])
        self.assertEqual(cut(28, row), [-7])
        self.assertEqual(cut(28, made(1, 0, 0, plain_row(9))), [-7])
        self.assertEqual(cut(28, made(1, 0, 0, plain_row(8)))[0], 0)

    def test_most_that_is_no_multiple_of_8_over_20(self):
        for most in range(28, 62):
            for length in range(45, 70):
                self.check_cut(most, 0, 2, plain_row(length))

    def test_a_piece_is_cut_again(self):
        for offset in (1, 7, 900):
            for most in (28, 35, 36, 44, 99):
                self.check_cut(most, 1, offset, plain_row(96))
                self.check_cut(most, 0, offset, plain_row(96))
                self.check_cut(most, 0, offset, plain_row(95))
        answer = cut(36, made(0, 1, 4, plain_row(32)))
        self.assertEqual(answer, answered_pieces([made(0, 1, 4, plain_row(32)[:16]), made(0, 1, 6, plain_row(32)[16:])]))

    def test_last_row(self):
        for more, length, last in ((0, 48, 16), (1, 48, 16), (0, 33, 1), (0, 47, 15), (0, 40, 8), (1, 40, 8)):
            answer = cut(36, made(0, more, 0, plain_row(length)))
            self.assertEqual(answer[:2], [0, 3])
            self.assertEqual(answer[-20 - last - 1], 20 + last)
            self.check_cut(36, more, 0, plain_row(length))

    def test_most_pieces(self):
        answer = cut(28, made(0, 0, 0, plain_row(8000)))
        self.assertEqual((answer[1], len(answer)), (1000, 2 + 1000 * 29))
        self.check_cut(28, 0, 0, plain_row(8000))
        self.check_cut(28, 1, 0, plain_row(8000))
        self.check_cut(28, 0, 0, plain_row(7993))
        self.check_cut(8019, 0, 0, plain_row(8000))

    def test_other_numbers_are_the_same_in_all_pieces(self):
        source = random.Random(9)
        for turn in range(50):
            front = (source.randrange(256), source.randrange(65536), 0)
            back = tuple(source.randrange(256) for place in range(2)) + (source.randrange(2 ** 32),) * 2
            body = plain_row(20)
            pieces = [packet_by_words(*front, 1, 9, *back, body[:16]), packet_by_words(*front, 0, 11, *back, body[16:])]
            self.assertEqual(cut(39, packet_by_words(*front, 0, 9, *back, body)), answered_pieces(pieces))

    def test_refusals_of_readpacket(self):
        for row in rows_that_are_not_bytes((20, 8020)) + rows_too_long(8020):
            self.assertEqual(cut(100, row), [-1])
        right = made(0, 0, 0, plain_row(80))
        for place in range(len(right)):
            for number in (-1, 256, LEAST, GREATEST):
                self.assertEqual(cut(50, put(right, place, number)), [-1])
        self.assertEqual(cut(50, right[:19]), [-1])
        self.assertEqual(cut(50, summed(put(right, 0, 70))), [-2])
        self.assertEqual(cut(50, right + [0]), [-3])
        self.assertEqual(cut(50, put(right, 11, right[11] ^ 1)), [-4])
        self.assertEqual(cut(50, made(1, 1, 0, plain_row(80))), [-5])

    def test_the_refusal_told_first(self):
        right = made(1, 0, 0, plain_row(80))
        check_answers(self, cut, [
            (-1, (27, put(right, 0, 256))),
            (-1, (50, put(right, 0, 70)[:19])),
            (-2, (27, put(right, 0, 70) + [0])),
            (-3, (27, put(right, 11, right[11] ^ 1) + [0])),
            (-4, (27, put(right, 6, 128))),
            (-5, (27, made(1, 1, 1, plain_row(80)))),
            (-5, (65536, summed(put(right, 6, 128)))),
            (-5, (LEAST, made(0, 1, 0, plain_row(81)))),
            (-6, (27, right)),
            (-6, (GREATEST, right)),
            (-7, (28, right)),
        ])

    def test_nothing_changed_or_kept(self):
        right = made(0, 0, 0, plain_row(80))
        check_left_alone(self, cut, [
            (28, right), (100, right), (99, right), (65535, right), (27, right), (65536, right), (GREATEST, right),
            (LEAST, right), (50, made(1, 0, 0, plain_row(80))), (28, made(0, 1, 0, plain_row(8000))), (50, []),
            (50, put(right, 0, 0)), (50, right + [0]), (50, put(right, 10, 0)), (50, made(1, 1, 0, plain_row(8))),
            (28, plain_row(10000)), (GREATEST, [GREATEST] * 10000), (LEAST, [LEAST] * 20),
        ])


if __name__ == "__main__":
    unittest.main()
