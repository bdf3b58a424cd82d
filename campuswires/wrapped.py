"""All in one: a datagram in a packet in a frame, and what is refused in the reading of it."""

from campuswires.datagrams import datagram_in_bytes, datagram_refusal, DATAGRAM_PROTO
from campuswires.frames import frame_body, frame_kind, frame_refusal, frame_tags, least_body
from campuswires.packets import packet_body, packet_in_bytes, packet_numbers, packet_refusal
from campuswires.packets import KEEP, PROTO, SENDER, TO, TOS
from campuswires.rows import number_at

PACKET_KIND = 2048


def packet_around(source, goal, ident, hops, sport, dport, body):
    numbers = [0, ident, 1, 0, 0, hops, DATAGRAM_PROTO, source, goal]
    return packet_in_bytes(numbers, datagram_in_bytes(source, goal, sport, dport, body))


def filled_up(row, tags):
    return row + [0] * max(least_body(tags) - len(row), 0)


def unwrap_refusal(b):
    """The number with which unwrap refuses b, or 0."""
    refusal = frame_refusal(b)
    if refusal != 0:
        return refusal
    tags = frame_tags(b)
    if len(tags) == 6 or (len(tags) == 3 and tags[1] == 1):
        return -11
    if frame_kind(b, tags) != PACKET_KIND:
        return -12
    body = frame_body(b, tags)
    if len(body) < told_length(body):
        return -13
    inner = wrapped_packet(b)
    if body != filled_up(inner, tags):
        return -14
    return inner_refusal(inner)


def inner_refusal(inner):
    refusal = packet_refusal(inner)
    if refusal != 0:
        return refusal - 20
    numbers = packet_numbers(inner)
    if numbers[TOS] != 0 or numbers[KEEP] != 1 or numbers[PROTO] != DATAGRAM_PROTO:
        return -30
    refusal = datagram_refusal(numbers[SENDER], numbers[TO], packet_body(inner))
    if refusal != 0:
        return refusal - 40
    return 0


def told_length(body):
    return number_at(body, 2, 2)


def wrapped_packet(b):
    body = frame_body(b, frame_tags(b))
    return body[0:told_length(body)]
