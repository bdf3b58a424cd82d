"""The calls over rows of bytes: each answers 0 and what is asked for, or a refusal's number alone."""

LONGEST_ROW = 9000
LONGEST_SECOND_ROW = 4096
GREATEST_CHECK_NUMBER = 4294967295
CHECK_PATTERN = 3988292384


def crc(b):
    if not is_row_of_bytes(b, LONGEST_ROW):
        return [-1]
    return [0, check_number(b)]


def joined(a, c, length):
    if not (is_check_number(a) and is_check_number(c) and 0 <= length <= LONGEST_SECOND_ROW):
        return [-1]
    return [0, after_check_steps(a, 8 * length) ^ c]


def sum_of(b):
    if not is_row_of_bytes(b, LONGEST_ROW):
        return [-1]
    return [0, row_sum(b)]


def is_row_of_bytes(b, longest):
    if len(b) > longest:
        return False
    for number in b:
        if number < 0 or number > 255:
            return False
    return True


def is_check_number(number):
    return 0 <= number <= GREATEST_CHECK_NUMBER


def check_number(b):
    r = GREATEST_CHECK_NUMBER
    for byte in b:
        r = after_check_steps(r ^ byte, 8)
    return r ^ GREATEST_CHECK_NUMBER


def after_check_steps(r, steps):
    for step in range(steps):
        if r % 2 == 1:
            r = (r // 2) ^ CHECK_PATTERN
        else:
            r = r // 2
    return r


def row_sum(b):
    s = 0
    for place, byte in enumerate(b):
        # A last byte alone needs nothing more: the byte 0 behind it would add nothing.
        if place % 2 == 0:
            s += byte * 256
        else:
            s += byte
    return 65535 - folded(s)


def folded(s):
    for turn in range(3):
        s = s % 65536 + s // 65536
    return s
