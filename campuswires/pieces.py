"""Pieces of one packet, put together again."""

from campuswires.packets import packet_body, packet_in_bytes, packet_numbers, packet_refusal
from campuswires.packets import HOPS, IDENT, KEEP, MORE, OFFSET, PROTO, SENDER, TO, TOS

MOST_PIECES = 256
# What stands at a place for which no piece has a byte.
NO_BYTE = 256


def pieces_refusal(pieces):
    """The number with which join refuses the pieces, or 0."""
    if len(pieces) == 0:
        return -8
    if len(pieces) > MOST_PIECES:
        return -1
    if not all([packet_refusal(piece) == 0 for piece in pieces]):
        return -2
    if not all([shared_numbers(piece) == shared_numbers(pieces[0]) for piece in pieces]):
        return -3
    if not any([is_last(piece) for piece in pieces]):
        return -4
    end = packet_end(pieces)
    if not all([fits_end(piece, end) for piece in pieces]):
        return -5
    places = filled_places(pieces)
    if not all([lies_in(piece, places) for piece in pieces]):
        return -6
    if NO_BYTE in places:
        return -7
    return 0


def shared_numbers(piece):
    numbers = packet_numbers(piece)
    return [numbers[place] for place in (TOS, IDENT, KEEP, PROTO, SENDER, TO)]


def is_last(piece):
    return packet_numbers(piece)[MORE] == 0


def packet_end(pieces):
    return [piece_end(piece) for piece in pieces if is_last(piece)][0]


def fits_end(piece, end):
    if is_last(piece):
        return piece_end(piece) == end
    return piece_end(piece) <= end


def piece_start(piece):
    return 8 * packet_numbers(piece)[OFFSET]


def piece_end(piece):
    return piece_start(piece) + len(packet_body(piece))


def filled_places(pieces):
    places = [NO_BYTE] * packet_end(pieces)
    for piece in pieces:
        start = piece_start(piece)
        for step, byte in enumerate(packet_body(piece)):
            places[start + step] = byte
    return places


def lies_in(piece, places):
    # Of two unlike bytes at one place only the later one is there, so the other's piece doesn't lie in.
    return places[piece_start(piece):piece_end(piece)] == packet_body(piece)


def put_together(pieces):
    numbers = packet_numbers(pieces[0])
    numbers[MORE] = 0
    numbers[OFFSET] = 0
    numbers[HOPS] = min([packet_numbers(piece)[HOPS] for piece in pieces])
    return packet_in_bytes(numbers, filled_places(pieces))
