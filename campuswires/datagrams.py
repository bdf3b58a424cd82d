"""Datagrams between two addresses: their bytes, their sum, and what is refused in the reading of them."""

from campuswires.rows import are_within, in_bytes, is_row_of_bytes, number_at, row_sum

LONGEST_DATAGRAM_BODY = 7992
DATAGRAM_HEAD_LENGTH = 8
DATAGRAM_PROTO = 17
ADDRESS_RANGES = ((0, 4294967295), (0, 4294967295))


def datagram_in_bytes(sender, to, sport, dport, body):
    before_sum = in_bytes(sport, 2) + in_bytes(dport, 2) + in_bytes(DATAGRAM_HEAD_LENGTH + len(body), 2)
    told = datagram_sum(sender, to, before_sum + [0, 0] + body)
    return before_sum + in_bytes(told, 2) + body


def datagram_sum(sender, to, b):
    between = in_bytes(sender, 4) + in_bytes(to, 4) + [0, DATAGRAM_PROTO] + in_bytes(len(b), 2)
    s = row_sum(between + b[0:6] + [0, 0] + b[8:])
    return 65535 if s == 0 else s


def datagram_refusal(sender, to, b):
    """The number with which readdatagram refuses b between the two addresses, or 0."""
    if not are_within([sender, to], ADDRESS_RANGES):
        return -1
    if not is_row_of_bytes(b, DATAGRAM_HEAD_LENGTH, DATAGRAM_HEAD_LENGTH + LONGEST_DATAGRAM_BODY):
        return -1
    if number_at(b, 4, 2) != len(b):
        return -2
    if number_at(b, 6, 2) != datagram_sum(sender, to, b):
        return -3
    return 0


def datagram_ports(b):
    return [number_at(b, 0, 2), number_at(b, 2, 2)]


def datagram_body(b):
    return b[DATAGRAM_HEAD_LENGTH:]
