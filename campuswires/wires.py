"""The calls: each answers 0 and what is asked for, or a refusal's number alone."""

from campuswires.datagrams import datagram_body, datagram_in_bytes, datagram_ports, datagram_refusal
from campuswires.datagrams import LONGEST_DATAGRAM_BODY
from campuswires.frames import are_tags, frame_body, frame_ends, frame_in_bytes, frame_kind, frame_refusal, frame_tags
from campuswires.frames import is_kind, least_body, tag_count, LONGEST_FRAME_BODY
from campuswires.leases import are_codes_rising, are_values, field_code, field_value, lease_fields, lease_in_bytes
from campuswires.leases import lease_numbers, lease_refusal, LEASE_RANGES, LONGEST_LEASE
from campuswires.packets import packet_body, packet_in_bytes, packet_may_be, packet_numbers, packet_refusal
from campuswires.packets import pieces_of_packet, with_a_hop_less
from campuswires.packets import HOPS, IDENT, KEEP, LONGEST_PACKET_BODY, PACKET_RANGES, SENDER, TO
from campuswires.pieces import pieces_refusal, put_together
from campuswires.questions import question_in_bytes, question_numbers, question_refusal, QUESTION_RANGES
from campuswires.rows import after_check_steps, are_within, check_number, is_row_of_bytes, is_within
from campuswires.rows import row_sum, HARDWARE_NUMBER
from campuswires.wrapped import filled_up, packet_around, unwrap_refusal, wrapped_packet, PACKET_KIND

LONGEST_ROW = 9000
MOST_IN_A_PIECE = (28, 65535)
JOINED_RANGES = ((0, 4294967295), (0, 4294967295), (0, 4096))
DATAGRAM_RANGES = ((0, 4294967295), (0, 4294967295), (0, 65535), (0, 65535))
LONGEST_WRAPPED_BODY = 1472
# In the order to, sender, source, goal, ident, hops, sport, dport; vlan and rank hang together and are looked at so.
WRAP_RANGES = ((0, 281474976710655), (0, 281474976710655), (0, 4294967295), (0, 4294967295), (0, 65535), (0, 255),
               (0, 65535), (0, 65535))


def crc(b):
    if not is_row_of_bytes(b, 0, LONGEST_ROW):
        return [-1]
    return [0, check_number(b)]


def joined(a, c, length):
    if not are_within([a, c, length], JOINED_RANGES):
        return [-1]
    return [0, after_check_steps(a, 8 * length) ^ c]


def sum_of(b):
    if not is_row_of_bytes(b, 0, LONGEST_ROW):
        return [-1]
    return [0, row_sum(b)]


def frame(to, sender, kind, tags, body):
    if not (is_within(to, HARDWARE_NUMBER) and is_within(sender, HARDWARE_NUMBER) and is_kind(kind)):
        return [-1]
    if not are_tags(tags):
        return [-2]
    if not is_row_of_bytes(body, least_body(tags), LONGEST_FRAME_BODY):
        return [-3]
    return [0] + behind_length(frame_in_bytes(to, sender, kind, tags, body))


def readframe(b):
    refusal = frame_refusal(b)
    if refusal != 0:
        return [refusal]
    tags = frame_tags(b)
    told = frame_ends(b) + [frame_kind(b, tags), tag_count(tags)] + tags
    return [0] + told + behind_length(frame_body(b, tags))


def packet(tos, ident, keep, more, offset, hops, proto, sender, to, body):
    numbers = [tos, ident, keep, more, offset, hops, proto, sender, to]
    if not are_within(numbers, PACKET_RANGES):
        return [-1]
    if not is_row_of_bytes(body, 0, LONGEST_PACKET_BODY):
        return [-2]
    if not packet_may_be(numbers, len(body)):
        return [-3]
    return [0] + behind_length(packet_in_bytes(numbers, body))


def readpacket(b):
    refusal = packet_refusal(b)
    if refusal != 0:
        return [refusal]
    return [0] + packet_numbers(b) + behind_length(packet_body(b))


def hop(b):
    refusal = packet_refusal(b)
    if refusal != 0:
        return [refusal]
    if packet_numbers(b)[HOPS] <= 1:
        return [-6]
    return [0] + behind_length(with_a_hop_less(b))


def cut(most, b):
    refusal = packet_refusal(b)
    if refusal != 0:
        return [refusal]
    if not is_within(most, MOST_IN_A_PIECE):
        return [-6]
    if len(b) <= most:
        return [0, 1] + behind_length(b)
    if packet_numbers(b)[KEEP] == 1:
        return [-7]
    pieces = pieces_of_packet(b, most)
    answer = [0, len(pieces)]
    for piece in pieces:
        answer.extend(behind_length(piece))
    return answer


def join(pieces):
    refusal = pieces_refusal(pieces)
    if refusal != 0:
        return [refusal]
    return [0] + behind_length(put_together(pieces))


def datagram(sender, to, sport, dport, body):
    if not are_within([sender, to, sport, dport], DATAGRAM_RANGES):
        return [-1]
    if not is_row_of_bytes(body, 0, LONGEST_DATAGRAM_BODY):
        return [-2]
    return [0] + behind_length(datagram_in_bytes(sender, to, sport, dport, body))


def readdatagram(sender, to, b):
    refusal = datagram_refusal(sender, to, b)
    if refusal != 0:
        return [refusal]
    return [0] + datagram_ports(b) + behind_length(datagram_body(b))


def lease(op, hops, secs, number, host, mine, yours, server, relay, fields):
    numbers = [op, hops, secs, number, host, mine, yours, server, relay]
    if not are_within(numbers, LEASE_RANGES):
        return [-1]
    if not are_codes_rising(fields):
        return [-2]
    if not are_values(fields):
        return [-3]
    row = lease_in_bytes(numbers, fields)
    if len(row) > LONGEST_LEASE:
        return [-4]
    return [0] + behind_length(row)


def readlease(b):
    refusal = lease_refusal(b)
    if refusal != 0:
        return [refusal]
    fields = lease_fields(b)
    answer = [0] + lease_numbers(b) + [len(fields)]
    for field in fields:
        answer.append(field_code(field))
        answer.extend(behind_length(field_value(field)))
    return answer


def question(op, hw, address, sought_hw, sought_address):
    if not are_within([op, hw, address, sought_hw, sought_address], QUESTION_RANGES):
        return [-1]
    return [0] + behind_length(question_in_bytes(op, hw, address, sought_hw, sought_address))


def readquestion(b):
    refusal = question_refusal(b)
    if refusal != 0:
        return [refusal]
    return [0] + question_numbers(b)


def wrap(to, sender, vlan, rank, source, goal, ident, hops, sport, dport, body):
    if not are_within([to, sender, source, goal, ident, hops, sport, dport], WRAP_RANGES):
        return [-1]
    tags = [] if vlan == -1 else [rank, 0, vlan]
    if not are_tags(tags) or (vlan == -1 and rank != 0):
        return [-1]
    if not is_row_of_bytes(body, 0, LONGEST_WRAPPED_BODY):
        return [-2]
    inner = packet_around(source, goal, ident, hops, sport, dport, body)
    return [0] + behind_length(frame_in_bytes(to, sender, PACKET_KIND, tags, filled_up(inner, tags)))


def unwrap(b):
    refusal = unwrap_refusal(b)
    if refusal != 0:
        return [refusal]
    tags = frame_tags(b)
    vlan_and_rank = [-1, 0] if len(tags) == 0 else [tags[2], tags[0]]
    inner = wrapped_packet(b)
    numbers = packet_numbers(inner)
    told = [numbers[SENDER], numbers[TO], numbers[IDENT], numbers[HOPS]] + datagram_ports(packet_body(inner))
    return [0] + frame_ends(b) + vlan_and_rank + told + behind_length(datagram_body(packet_body(inner)))


def behind_length(row):
    return [len(row)] + row
