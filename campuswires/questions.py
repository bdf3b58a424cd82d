"""Questions for addresses: their bytes."""

from campuswires.rows import in_bytes

QUESTION_START = (0, 1, 8, 0, 6, 4, 0)
QUESTION_RANGES = ((1, 2), (0, 281474976710655), (0, 4294967295), (0, 281474976710655), (0, 4294967295))


def question_in_bytes(op, hw, address, sought_hw, sought_address):
    asking = in_bytes(hw, 6) + in_bytes(address, 4)
    sought = in_bytes(sought_hw, 6) + in_bytes(sought_address, 4)
    return list(QUESTION_START) + [op] + asking + sought
