"""Frames: their tags, their bytes, and what is refused in the reading of them."""

from campuswires.rows import are_within, check_number, in_bytes, in_bytes_lowest_first, number_at
from campuswires.rows import is_row_of_bytes, is_within

SHORTEST_FRAME = 64
LONGEST_FRAME = 1526
LONGEST_FRAME_BODY = 1500
KIND = (1536, 65535)
# What stands in the kind's place where a tag comes first, so neither is a kind.
LAST_TAG_MARK = 33024
FIRST_OF_TWO_MARK = 34984
TAG_RANGES = ((0, 7), (0, 1), (0, 4095))
ADDRESSES_LENGTH = 12
TAG_LENGTH = 4
KIND_LENGTH = 2
CHECK_LENGTH = 4


def is_kind(number):
    return is_within(number, KIND) and number != LAST_TAG_MARK and number != FIRST_OF_TWO_MARK


def are_tags(tags):
    return len(tags) in (0, 3, 6) and are_within(tags[0:3], TAG_RANGES) and are_within(tags[3:6], TAG_RANGES)


def least_body(tags):
    return 46 - TAG_LENGTH * tag_count(tags)


def tag_count(tags):
    return len(tags) // 3


def frame_in_bytes(to, sender, kind, tags, body):
    row = in_bytes(to, 6) + in_bytes(sender, 6) + tags_in_bytes(tags) + in_bytes(kind, 2) + body
    return row + in_bytes_lowest_first(check_number(row), CHECK_LENGTH)


def tags_in_bytes(tags):
    if len(tags) == 0:
        return []
    if len(tags) == 3:
        return tag_in_bytes(LAST_TAG_MARK, tags)
    return tag_in_bytes(FIRST_OF_TWO_MARK, tags[0:3]) + tag_in_bytes(LAST_TAG_MARK, tags[3:6])


def tag_in_bytes(mark, tag):
    return in_bytes(mark, 2) + in_bytes(tag[0] * 8192 + tag[1] * 4096 + tag[2], 2)


def frame_refusal(b):
    """The number with which readframe refuses b, or 0."""
    if not is_row_of_bytes(b, SHORTEST_FRAME, LONGEST_FRAME):
        return -1
    checked = len(b) - CHECK_LENGTH
    if b[checked:] != in_bytes_lowest_first(check_number(b[0:checked]), CHECK_LENGTH):
        return -2
    if number_at(b, 12, 2) == FIRST_OF_TWO_MARK and number_at(b, 16, 2) != LAST_TAG_MARK:
        return -3
    tags = frame_tags(b)
    if not is_kind(frame_kind(b, tags)):
        return -4
    if len(frame_body(b, tags)) > LONGEST_FRAME_BODY:
        return -5
    return 0


def frame_ends(b):
    return [number_at(b, 0, 6), number_at(b, 6, 6)]


def frame_tags(b):
    mark = number_at(b, 12, 2)
    if mark == FIRST_OF_TWO_MARK:
        return tag_at(b, 14) + tag_at(b, 18)
    if mark == LAST_TAG_MARK:
        return tag_at(b, 14)
    return []


def tag_at(b, place):
    number = number_at(b, place, 2)
    return [number // 8192, number // 4096 % 2, number % 4096]


def frame_kind(b, tags):
    return number_at(b, kind_place(tags), KIND_LENGTH)


def frame_body(b, tags):
    return b[kind_place(tags) + KIND_LENGTH:len(b) - CHECK_LENGTH]


def kind_place(tags):
    return ADDRESSES_LENGTH + TAG_LENGTH * tag_count(tags)
