"""What several tests need: lists that tell of a change, rows that are to be refused, and the document's
own words on bytes, written down a second time."""
import copy
import zlib

LEAST = -10 ** 18
GREATEST = 10 ** 18
TOP_HARDWARE = 2 ** 48 - 1
TOP_ADDRESS = 2 ** 32 - 1


class Changed(Exception):
    pass


def refuse(self, *args, **kwargs):
    raise Changed("what was handed in was changed")


class WatchedList(list):
    """A list that fails at the first change, so one that is taken back later is seen too."""


for changer in ("append", "clear", "extend", "insert", "pop", "remove", "reverse", "sort",
                "__setitem__", "__delitem__", "__iadd__", "__imul__"):
    setattr(WatchedList, changer, refuse)


def watched(value):
    return WatchedList([watched(inner) for inner in value]) if isinstance(value, list) else value


def plain_row(length):
    return [(place * 37 + place // 7 + 11) % 256 for place in range(length)]


def rows_that_are_not_bytes(lengths):
    """Rows with one wrong number, at the first, a middle and the last place."""
    rows = []
    for wrong in (-1, 256, LEAST, GREATEST):
        for length in lengths:
            for place in sorted({0, length // 2, length - 1}):
                row = plain_row(length)
                row[place] = wrong
                rows.append(row)
    return rows


def rows_too_long(longest):
    return [plain_row(longest + 1), [0] * (longest + 1), plain_row(10000), [GREATEST] * 10000, [LEAST] * 10000]


def check_row_refusals(test, call):
    for row in rows_that_are_not_bytes((1, 2, 5, 9000)) + rows_too_long(9000):
        test.assertEqual(call(row), [-1], (len(row), min(row), max(row)))


def check_row_left_alone(test, call):
    rows = [[], [7], plain_row(8), plain_row(9), plain_row(9000), plain_row(9001),
            [-1, 2, 3], [1, 256, 3], [1, 2, GREATEST], [LEAST]]
    check_left_alone(test, call, [(row,) for row in rows])


def check_form(test, answer):
    """A plain list of plain whole numbers, a refusal's number alone."""
    test.assertIs(type(answer), list)
    test.assertEqual({type(number) for number in answer}, {int})
    test.assertTrue(answer[0] == 0 or (answer[0] < 0 and len(answer) == 1))


def check_left_alone(test, call, calls):
    """No answer and no refusal changes what was handed in, and nothing is kept between two calls."""
    alone = []
    for handed in calls:
        before = copy.deepcopy(handed)
        first = call(*[watched(value) for value in handed])
        check_form(test, first)
        second = call(*handed)
        test.assertEqual(handed, before)
        test.assertEqual(second, first)
        # An answer is the caller's own: a change of it reaches neither what was handed in nor the next answer.
        second[:] = [-77] * len(second) + [5]
        test.assertEqual(handed, before)
        test.assertEqual(call(*handed), first)
        alone.append(first)
    test.assertEqual([call(*handed) for handed in reversed(calls)], alone[::-1])


def check_answers(test, call, calls):
    """Each of the calls, with the first number that it is to answer; all stay as they were."""
    for refusal, handed in calls:
        test.assertEqual(call(*handed)[0], refusal, [value if isinstance(value, int) else len(value)
                                                     for value in handed])
    check_left_alone(test, call, [handed for refusal, handed in calls])


def check_ends(test, call, right, ranges, refusal):
    """Each number at both ends of its range (answered) and beyond (refused), all else right."""
    for place, (least, greatest) in enumerate(ranges):
        for number in (least, least + 1, greatest - 1, greatest):
            if least <= number <= greatest:
                test.assertEqual(call(*put(right, place, number))[0], 0, (place, number))
        for number in (least - 1, greatest + 1, LEAST, GREATEST):
            test.assertEqual(call(*put(right, place, number)), [refusal], (place, number))


def put(row, place, *numbers):
    """The same row (or arguments), other numbers standing from the place on."""
    changed = list(row)
    changed[place:place + len(numbers)] = numbers
    return changed


def big(number, count):
    return list(number.to_bytes(count, "big"))


def answered(row):
    return [0, len(row)] + row


def sealed(row):
    """The bytes of a frame, with the check number that they ask for behind them."""
    return row + list(zlib.crc32(bytes(row)).to_bytes(4, "little"))


def sum_by_words(row):
    filled = row + [0] * (len(row) % 2)
    s = sum(int.from_bytes(bytes(filled[k:k + 2]), "big") for k in range(0, len(filled), 2))
    for turn in range(3):
        s = s % 65536 + s // 65536
    return 65535 - s


def frame_by_words(to, sender, kind, tags, body):
    row = big(to, 6) + big(sender, 6)
    for place in range(0, len(tags), 3):
        row += [136, 168] if len(tags) - place == 6 else [129, 0]
        row += big(tags[place] << 13 | tags[place + 1] << 12 | tags[place + 2], 2)
    return sealed(row + big(kind, 2) + body)


def summed(row):
    """The bytes of a packet, with the sum that its first twenty ask for in its place."""
    return row[:10] + big(sum_by_words(row[:10] + [0, 0] + row[12:20]), 2) + row[12:]


def packet_by_words(tos, ident, keep, more, offset, hops, proto, sender, to, body):
    middle = big(keep << 14 | more << 13 | offset, 2) + [hops, proto, 0, 0]
    return summed([69, tos] + big(20 + len(body), 2) + big(ident, 2) + middle + big(sender, 4) + big(to, 4) + body)


def rows_answered(answer):
    """The rows of an answer that tells how many they are and then each behind its length."""
    rows, place = [], 2
    while place < len(answer):
        rows.append(answer[place + 1:place + 1 + answer[place]])
        place += 1 + answer[place]
    return rows


def datagram_by_words(sender, to, sport, dport, body):
    length = big(8 + len(body), 2)
    row = big(sport, 2) + big(dport, 2) + length
    told = sum_by_words(big(sender, 4) + big(to, 4) + [0, 17] + length + row + [0, 0] + body) or 65535
    return row + big(told, 2) + body


def lease_head(op, hops, secs, number, host, mine, yours, server, relay):
    row = [op, hops] + big(secs, 2) + big(number, 4) + big(host, 6) + [0, 0]
    return row + big(mine, 4) + big(yours, 4) + big(server, 4) + big(relay, 4)


def filled(row):
    """With bytes 0 behind it, up to a multiple of 4."""
    return row + [0] * (-len(row) % 4)


def lease_by_words(numbers, fields):
    row = lease_head(*numbers)
    for code, *value in fields:
        while len(value) > 255:
            row += [code, 255] + value[:255]
            value = value[255:]
        row += [code, len(value)] + value
    return filled(row + [255])


def question_by_words(op, hw, address, sought_hw, sought_address):
    return [0, 1, 8, 0, 6, 4, 0, op] + big(hw, 6) + big(address, 4) + big(sought_hw, 6) + big(sought_address, 4)


def wrap_by_words(to, sender, vlan, rank, source, goal, ident, hops, sport, dport, body):
    inner = datagram_by_words(source, goal, sport, dport, body)
    row = packet_by_words(0, ident, 1, 0, 0, hops, 17, source, goal, inner)
    tags = [rank, 0, vlan] if vlan >= 0 else []
    while len(row) < (42 if tags else 46):
        row = row + [0]
    return frame_by_words(to, sender, 2048, tags, row)
