"""Questions for addresses: their bytes, and what is refused in the reading of them."""

from campuswires.rows import in_bytes, is_row_of_bytes, number_at

QUESTION_LENGTH = 28
QUESTION_START = (0, 1, 8, 0, 6, 4, 0)
QUESTION_RANGES = ((1, 2), (0, 281474976710655), (0, 4294967295), (0, 281474976710655), (0, 4294967295))


def question_in_bytes(op, hw, address, sought_hw, sought_address):
    asking = in_bytes(hw, 6) + in_bytes(address, 4)
    sought = in_bytes(sought_hw, 6) + in_bytes(sought_address, 4)
    return list(QUESTION_START) + [op] + asking + sought


def question_refusal(b):
    """The number with which readquestion refuses b, or 0."""
    if not is_row_of_bytes(b, QUESTION_LENGTH, QUESTION_LENGTH):
        return -1
    if b[0:7] != list(QUESTION_START):
        return -2
    if b[7] != 1 and b[7] != 2:
        return -3
    return 0


def question_numbers(b):
    return [b[7], number_at(b, 8, 6), number_at(b, 14, 4), number_at(b, 18, 6), number_at(b, 24, 4)]
