import inspect
import random
import unittest

from campuswires.wires import cut, hop, join
from watched import GREATEST, LEAST, TOP_ADDRESS, answered, check_answers, check_left_alone, packet_by_words
from watched import plain_row, put, rows_answered, rows_that_are_not_bytes, summed

BODY = plain_row(50)


def piece(more, offset, body, hops=64):
    return packet_by_words(1, 2, 0, more, offset, hops, 17, 5, 6, body)


def front(start, end, hops=64):
    """The piece of BODY from one place to another, with more 1."""
    return piece(1, start // 8, BODY[start:end], hops)


def back(start, hops=64):
    return piece(0, start // 8, BODY[start:], hops)


WHOLE = back(0)


def join_by_words(pieces):
    """The document's words on pieces that are all packets, alike but for more, offset, hops and body."""
    told = []
    for row in pieces:
        offset = (row[6] % 32 * 256 + row[7]) * 8
        told.append((row[6] // 32 % 2, offset, offset + len(row) - 20, row[20:]))
    ends = [end for more, start, end, body in told if more == 0]
    if not ends:
        return [-4]
    if max(end for more, start, end, body in told) > ends[0] or any(end != ends[0] for end in ends):
        return [-5]
    at = [{body[place - start] for more, start, end, body in told if start <= place < end} for place in range(ends[0])]
    if any(len(found) > 1 for found in at):
        return [-6]
    if not all(at):
        return [-7]
    return answered(piece(0, 0, [min(found) for found in at], min(row[8] for row in pieces)))


class JoinTest(unittest.TestCase):
    def check_joined(self, pieces, whole=WHOLE):
        self.assertEqual(join(pieces), answered(whole))

    def test_interface(self):
        self.assertEqual(list(inspect.signature(join).parameters), ["pieces"])
        self.assertEqual(join(pieces=[WHOLE]), answered(WHOLE))

    def test_no_piece(self):
        self.assertEqual(join([]), [-8])

    def test_one_whole_packet(self):
        for keep in (0, 1):
            for body in ([], [7], plain_row(8), plain_row(380)):
                whole = packet_by_words(255, 65535, keep, 0, 0, 1, 255, TOP_ADDRESS, 0, body)
                self.check_joined([whole], whole)
                self.check_joined([whole] * 40, whole)

    def test_pieces_of_a_cut(self):
        source = random.Random(10)
        for length in (17, 24, 63, 300):
            for most in (28, 36, 61, 100):
                whole = piece(0, 0, plain_row(length))
                pieces = rows_answered(cut(most, whole))
                self.check_joined(pieces, whole)
                self.check_joined(pieces[::-1], whole)
                for turn in range(5):
                    source.shuffle(pieces)
                    self.check_joined(pieces, whole)
                    self.check_joined(pieces + [source.choice(pieces)], whole)
                    self.check_joined(pieces + pieces, whole)

    def test_pieces_of_pieces(self):
        whole = piece(0, 0, plain_row(380))
        pieces = rows_answered(cut(130, whole))
        smaller = [row for each in pieces for row in rows_answered(cut(50, each))]
        self.assertGreater(len(smaller), len(pieces))
        self.check_joined(smaller[::-1], whole)
        self.check_joined(smaller + pieces, whole)

    def test_more_than_256(self):
        self.check_joined([WHOLE] * 256)
        self.assertEqual(join([WHOLE] * 257), [-1])

    def test_longest_packet(self):
        whole = piece(0, 0, plain_row(8000))
        self.check_joined(rows_answered(cut(400, whole))[::-1], whole)

    def test_rows_that_are_no_packets(self):
        wrong = [[], WHOLE[:19], put(WHOLE, 0, 256), put(WHOLE, 60, -1), summed(put(WHOLE, 0, 70)), WHOLE + [0],
                 WHOLE[:-1], put(WHOLE, 11, WHOLE[11] ^ 1), summed(put(WHOLE, 6, 128)), piece(1, 0, plain_row(9)),
                 piece(1, 0, []), packet_by_words(1, 2, 1, 1, 0, 64, 17, 5, 6, plain_row(8)), [GREATEST] * 400,
                 [LEAST] * 400, [0] * 400] + rows_that_are_not_bytes((1, 20, 400))
        for row in wrong:
            self.assertEqual(join([row]), [-2])
            self.assertEqual(join([row, WHOLE]), [-2])
            self.assertEqual(join([WHOLE] * 39 + [row]), [-2])

    def test_unlike_numbers(self):
        numbers = (1, 2, 0, 0, 0, 64, 17, 5, 6)
        for place in (0, 1, 2, 6, 7, 8):
            other = packet_by_words(*put(numbers, place, numbers[place] + 1), BODY)
            self.assertEqual(join([WHOLE, other]), [-3])
            self.assertEqual(join([other, WHOLE]), [-3])
            self.assertEqual(join([WHOLE, WHOLE, other, WHOLE]), [-3])
            self.assertEqual(join([other, other]), answered(other))

    def test_unlike_hops(self):
        self.check_joined([front(0, 24, 9), back(24, 7)], back(0, 7))
        self.check_joined([front(0, 24, 7), back(24, 9)], back(0, 7))
        self.check_joined([front(0, 24, 255), front(24, 40, 0), back(40, 1)], back(0, 0))
        self.check_joined([WHOLE, hop(WHOLE)[2:]], back(0, 63))

    def test_no_last_piece(self):
        self.assertEqual(join([front(0, 24)]), [-4])
        self.assertEqual(join([front(24, 48), front(0, 24)]), [-4])

    def test_end_beyond_the_end(self):
        last = piece(0, 2, BODY[16:20])
        self.assertEqual(join([front(0, 16), last]), answered(piece(0, 0, BODY[:20])))
        self.assertEqual(join([front(0, 24), last]), [-5])
        self.assertEqual(join([last, front(0, 16), front(16, 24)]), [-5])
        self.assertEqual(join([front(0, 16), last, piece(1, 999, plain_row(8))]), [-5])
        self.check_joined([front(0, 16), front(8, 16), piece(0, 2, [])], piece(0, 0, BODY[:16]))

    def test_two_last_pieces(self):
        self.check_joined([front(0, 24), back(24), back(40), back(0)])
        longer, shorter = piece(0, 2, BODY[16:20]), piece(0, 2, BODY[16:19])
        for pieces in ([longer, shorter], [shorter, longer]):
            self.assertEqual(join([front(0, 16)] + pieces), [-5])
            self.assertEqual(join(pieces + [front(0, 16)]), [-5])

    def test_overlapping_pieces(self):
        self.check_joined([front(0, 32), back(16)])
        self.check_joined([back(16), front(8, 40), front(0, 24)])
        for place in range(50):
            unlike = list(BODY)
            unlike[place] ^= 1
            for pieces in ([WHOLE, piece(0, 0, unlike)], [piece(0, 0, unlike), WHOLE, WHOLE]):
                self.assertEqual(join(pieces), [-6])
        unlike = BODY[16:32]
        unlike[15] ^= 128
        self.assertEqual(join([front(0, 32), back(32), piece(1, 2, unlike)]), [-6])
        self.check_joined([front(0, 16), piece(1, 2, unlike), back(32)],
                          piece(0, 0, BODY[:16] + unlike + BODY[32:]))

    def test_holes(self):
        self.assertEqual(join([back(8)]), [-7])
        self.assertEqual(join([front(8, 16), back(16)]), [-7])
        self.assertEqual(join([front(0, 16), back(24)]), [-7])
        self.assertEqual(join([back(40), front(0, 16), front(24, 40)]), [-7])
        self.assertEqual(join([front(0, 40), piece(0, 6, BODY[48:])]), [-7])
        self.check_joined([front(0, 48), piece(0, 6, BODY[48:])])

    def test_unlike_bytes_behind_a_hole(self):
        unlike = [byte ^ 1 for byte in BODY[24:]]
        self.assertEqual(join([front(0, 16), back(24), piece(0, 3, unlike)]), [-6])
        self.assertEqual(join([back(24), piece(0, 3, unlike)]), [-6])

    def test_empty_bodies(self):
        empty = piece(0, 0, [])
        self.check_joined([empty], empty)
        self.check_joined([empty, empty], empty)
        self.check_joined([front(0, 16), piece(0, 2, [])], piece(0, 0, BODY[:16]))
        self.check_joined([piece(0, 2, []), front(8, 16), front(0, 8)], piece(0, 0, BODY[:16]))
        self.assertEqual(join([piece(0, 2, [])]), [-7])
        self.assertEqual(join([piece(0, 1000, [])]), [-7])
        self.assertEqual(join([empty, WHOLE]), [-5])
        self.assertEqual(join([WHOLE, empty]), [-5])
        self.assertEqual(join([empty, front(0, 8)]), [-5])

    def test_many_sorts_of_pieces(self):
        source = random.Random(11)
        seen = {}
        for turn in range(3000):
            pieces = []
            for count in range(source.randrange(1, 6)):
                start = source.randrange(4) * 8
                end = start + source.randrange(1, 4) * 8
                body = BODY[start:end] if source.randrange(8) else [1] * (end - start)
                hops = source.randrange(60, 64)
                pieces.append(piece(0 if end >= 32 and source.randrange(3) else 1, start // 8, body, hops))
            answer = join(pieces)
            self.assertEqual(answer, join_by_words(pieces))
            seen[answer[0]] = True
        self.assertEqual(sorted(seen), [-7, -6, -5, -4, 0])

    def test_the_refusal_told_first(self):
        other = packet_by_words(9, 2, 0, 1, 0, 64, 17, 5, 6, BODY[:24])
        unlike = piece(0, 0, [byte ^ 1 for byte in BODY])
        check_answers(self, join, [
            (-1, ([WHOLE] * 256 + [[]],)),
            (-2, ([WHOLE, other, WHOLE[:-1]],)),
            (-2, ([front(0, 24), WHOLE[:-1]],)),
            (-3, ([front(0, 24), other],)),
            (-3, ([piece(0, 0, []), other],)),
            (-4, ([front(0, 24), front(24, 32), piece(1, 0, plain_row(24)[::-1])],)),
            (-5, ([WHOLE, unlike, piece(0, 0, [])],)),
            (-5, ([piece(0, 2, [1]), piece(0, 2, [2, 3])],)),
            (-6, ([back(24), piece(0, 3, [1] * 26)],)),
            (-6, ([front(8, 24), piece(1, 1, [1] * 16), back(40)],)),
            (-7, ([front(8, 24), back(24)],)),
        ])

    def test_nothing_changed_or_kept(self):
        check_left_alone(self, join, [
            ([],), ([WHOLE],), ([WHOLE] * 40,), ([front(0, 24, 9), back(24, 7)],), ([back(24), front(0, 24)],),
            ([WHOLE] * 257,), ([WHOLE, []],), ([WHOLE, packet_by_words(9, 2, 0, 0, 0, 64, 17, 5, 6, BODY)],),
            ([front(0, 24)],), ([piece(0, 0, []), WHOLE],), ([WHOLE, piece(0, 0, [1] * 50)],), ([back(8)],),
            ([[GREATEST] * 400] * 40,), ([[LEAST] * 400] * 40,), ([plain_row(400)] * 40,),
        ])


if __name__ == "__main__":
    unittest.main()
