"""Packets: their nine numbers, which of them may be, their bytes, a hop less, and their pieces."""

from campuswires.rows import folded, in_bytes, is_row_of_bytes, number_at, row_sum

LONGEST_PACKET_BODY = 8000
HEAD_LENGTH = 20
FIRST_BYTE = 69
# A packet's nine numbers stand in one list; these are their places in it.
TOS = 0
IDENT = 1
KEEP = 2
MORE = 3
OFFSET = 4
HOPS = 5
PROTO = 6
SENDER = 7
TO = 8
PACKET_RANGES = ((0, 255), (0, 65535), (0, 1), (0, 1), (0, 8191), (0, 255), (0, 255), (0, 4294967295), (0, 4294967295))


def packet_may_be(numbers, body_length):
    if numbers[KEEP] == 1 and (numbers[MORE] != 0 or numbers[OFFSET] != 0):
        return False
    if numbers[MORE] == 1 and (body_length == 0 or body_length % 8 != 0):
        return False
    return 8 * numbers[OFFSET] + body_length <= LONGEST_PACKET_BODY


def packet_in_bytes(numbers, body):
    choices = numbers[KEEP] * 16384 + numbers[MORE] * 8192 + numbers[OFFSET]
    before_sum = [FIRST_BYTE, numbers[TOS]] + in_bytes(HEAD_LENGTH + len(body), 2) + in_bytes(numbers[IDENT], 2)
    before_sum = before_sum + in_bytes(choices, 2) + [numbers[HOPS], numbers[PROTO]]
    behind_sum = in_bytes(numbers[SENDER], 4) + in_bytes(numbers[TO], 4)
    told = row_sum(before_sum + [0, 0] + behind_sum)
    return before_sum + in_bytes(told, 2) + behind_sum + body


def packet_refusal(b):
    """The number with which readpacket refuses b, or 0."""
    if not is_row_of_bytes(b, HEAD_LENGTH, HEAD_LENGTH + LONGEST_PACKET_BODY):
        return -1
    if b[0] != FIRST_BYTE:
        return -2
    if number_at(b, 2, 2) != len(b):
        return -3
    if number_at(b, 10, 2) != row_sum(b[0:10] + [0, 0] + b[12:HEAD_LENGTH]):
        return -4
    if number_at(b, 6, 2) >= 32768 or not packet_may_be(packet_numbers(b), len(b) - HEAD_LENGTH):
        return -5
    return 0


def packet_numbers(b):
    choices = number_at(b, 6, 2)
    first = [b[1], number_at(b, 4, 2), choices // 16384, choices // 8192 % 2, choices % 8192]
    return first + [b[8], b[9], number_at(b, 12, 4), number_at(b, 16, 4)]


def packet_body(b):
    return b[HEAD_LENGTH:]


def with_a_hop_less(b):
    return b[0:8] + [b[8] - 1, b[9]] + in_bytes(mended_sum(b), 2) + b[12:]


def mended_sum(b):
    h = number_at(b, 8, 2)
    c = number_at(b, 10, 2)
    return 65535 - folded((65535 - c) + (65535 - h) + (h - 256))


def pieces_of_packet(b, most):
    m = (most - HEAD_LENGTH) // 8 * 8
    body = packet_body(b)
    pieces = []
    for start in range(0, len(body), m):
        numbers = packet_numbers(b)
        numbers[OFFSET] += start // 8
        if start + m < len(body):
            numbers[MORE] = 1
        pieces.append(packet_in_bytes(numbers, body[start:start + m]))
    return pieces
