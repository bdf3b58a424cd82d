"""What the calls share: ranges, numbers in bytes, check numbers and sums."""

HARDWARE_NUMBER = (0, 281474976710655)
ALL_ONES = 4294967295
CHECK_PATTERN = 3988292384


def is_within(number, bounds):
    return bounds[0] <= number <= bounds[1]


def are_within(numbers, ranges):
    for number, bounds in zip(numbers, ranges):
        if not is_within(number, bounds):
            return False
    return True


def is_row_of_bytes(b, shortest, longest):
    if len(b) < shortest or len(b) > longest:
        return False
    for number in b:
        if number < 0 or number > 255:
            return False
    return True


def in_bytes(number, count):
    return list(reversed(in_bytes_lowest_first(number, count)))


def in_bytes_lowest_first(number, count):
    row = []
    rest = number
    for place in range(count):
        row.append(rest % 256)
        rest = rest // 256
    return row


def number_at(b, place, count):
    number = 0
    for byte in b[place:place + count]:
        number = number * 256 + byte
    return number


def check_number(b):
    r = ALL_ONES
    for byte in b:
        r = after_check_steps(r ^ byte, 8)
    return r ^ ALL_ONES


def after_check_steps(r, steps):
    for step in range(steps):
        if r % 2 == 1:
            r = (r // 2) ^ CHECK_PATTERN
        else:
            r = r // 2
    return r


def row_sum(b):
    s = 0
    for place, byte in enumerate(b):
        # A last byte alone needs nothing more: the byte 0 behind it would add nothing.
        if place % 2 == 0:
            s += byte * 256
        else:
            s += byte
    return 65535 - folded(s)


def folded(s):
    for turn in range(3):
        s = s % 65536 + s // 65536
    return s
