"""Lease messages: their nine numbers, their fields, their bytes, and what is refused in the reading of them."""

from campuswires.rows import are_within, in_bytes, is_row_of_bytes, number_at

SHORTEST_LEASE = 36
LONGEST_LEASE = 1400
LONGEST_VALUE = 1000
LONGEST_WRITTEN_VALUE = 255
FIELDS_START = 32
GREATEST_CODE = 254
FIELDS_END = 255
LEASE_RANGES = ((1, 8), (0, 16), (0, 65535), (0, 4294967295), (0, 281474976710655), (0, 4294967295), (0, 4294967295),
                (0, 4294967295), (0, 4294967295))


def field_code(field):
    return field[0] if len(field) > 0 else 0


def field_value(field):
    return field[1:]


def are_codes_rising(fields):
    before = 0
    for field in fields:
        code = field_code(field)
        if code <= before or code > GREATEST_CODE:
            return False
        before = code
    return True


def are_values(fields):
    return all([is_row_of_bytes(field_value(field), 0, LONGEST_VALUE) for field in fields])


def lease_in_bytes(numbers, fields):
    row = numbers[0:2] + in_bytes(numbers[2], 2) + in_bytes(numbers[3], 4) + in_bytes(numbers[4], 6) + [0, 0]
    for address in numbers[5:9]:
        row.extend(in_bytes(address, 4))
    for field in fields:
        row.extend(field_in_bytes(field_code(field), field_value(field)))
    row.append(FIELDS_END)
    return row + [0] * ((4 - len(row) % 4) % 4)


def field_in_bytes(code, value):
    row = []
    start = 0
    while len(value) - start > LONGEST_WRITTEN_VALUE:
        row.extend([code, LONGEST_WRITTEN_VALUE] + value[start:start + LONGEST_WRITTEN_VALUE])
        start += LONGEST_WRITTEN_VALUE
    return row + [code, len(value) - start] + value[start:]


def lease_refusal(b):
    """The number with which readlease refuses b, or 0."""
    if not is_row_of_bytes(b, SHORTEST_LEASE, LONGEST_LEASE) or len(b) % 4 != 0:
        return -1
    end = fields_end(b)
    if end == len(b):
        return -2
    behind = b[end + 1:]
    if len(behind) >= 4 or any([byte != 0 for byte in behind]):
        return -3
    fields = fields_as_they_stand(b)
    if not are_neighbours_fitting(fields):
        return -4
    if not are_within(lease_numbers(b), LEASE_RANGES) or number_at(b, 14, 2) != 0:
        return -5
    if not are_values(lease_fields(b)):
        return -6
    return 0


def fields_end(b):
    """The place of the 255 with which the fields end, or b's length if they don't end as told."""
    place = FIELDS_START
    while place < len(b) and b[place] != FIELDS_END:
        if b[place] == 0 or place + 1 == len(b):
            return len(b)
        place += 2 + b[place + 1]
    return min(place, len(b))


def fields_as_they_stand(b):
    fields = []
    place = FIELDS_START
    while b[place] != FIELDS_END:
        value_end = place + 2 + b[place + 1]
        fields.append([b[place]] + b[place + 2:value_end])
        place = value_end
    return fields


def are_neighbours_fitting(fields):
    for place in range(1, len(fields)):
        if not may_follow(fields[place], fields[place - 1]):
            return False
    return True


def may_follow(field, before):
    if field_code(field) != field_code(before):
        return field_code(field) > field_code(before)
    return len(field_value(before)) == LONGEST_WRITTEN_VALUE and len(field_value(field)) > 0


def lease_fields(b):
    fields = []
    for field in fields_as_they_stand(b):
        if len(fields) > 0 and field_code(fields[-1]) == field_code(field):
            fields[-1].extend(field_value(field))
        else:
            fields.append(list(field))
    return fields


def lease_numbers(b):
    addresses = [number_at(b, place, 4) for place in (16, 20, 24, 28)]
    return [b[0], b[1], number_at(b, 2, 2), number_at(b, 4, 4), number_at(b, 8, 6)] + addresses
