"""Packets: their nine numbers, which of them may be, and their bytes."""

from campuswires.rows import in_bytes, row_sum

LONGEST_PACKET_BODY = 8000
HEAD_LENGTH = 20
FIRST_BYTE = 69
# A packet's nine numbers stand in one list; these are their places in it.
TOS = 0
IDENT = 1
KEEP = 2
MORE = 3
OFFSET = 4
HOPS = 5
PROTO = 6
SENDER = 7
TO = 8
PACKET_RANGES = ((0, 255), (0, 65535), (0, 1), (0, 1), (0, 8191), (0, 255), (0, 255), (0, 4294967295), (0, 4294967295))


def packet_may_be(numbers, body_length):
    if numbers[KEEP] == 1 and (numbers[MORE] != 0 or numbers[OFFSET] != 0):
        return False
    if numbers[MORE] == 1 and (body_length == 0 or body_length % 8 != 0):
        return False
    return 8 * numbers[OFFSET] + body_length <= LONGEST_PACKET_BODY


def packet_in_bytes(numbers, body):
    choices = numbers[KEEP] * 16384 + numbers[MORE] * 8192 + numbers[OFFSET]
    before_sum = [FIRST_BYTE, numbers[TOS]] + in_bytes(HEAD_LENGTH + len(body), 2) + in_bytes(numbers[IDENT], 2)
    before_sum = before_sum + in_bytes(choices, 2) + [numbers[HOPS], numbers[PROTO]]
    behind_sum = in_bytes(numbers[SENDER], 4) + in_bytes(numbers[TO], 4)
    told = row_sum(before_sum + [0, 0] + behind_sum)
    return before_sum + in_bytes(told, 2) + behind_sum + body
