"""What several tests need: lists that tell of a change, and rows that are to be refused."""

LEAST = -10 ** 18
GREATEST = 10 ** 18


class Changed(Exception):
    pass


def refuse(self, *args, **kwargs):
    raise Changed("what was handed in was changed")


class WatchedList(list):
    """A list that fails at the first change, so one that is taken back later is seen too."""


for changer in ("append", "clear", "extend", "insert", "pop", "remove", "reverse", "sort",
                "__setitem__", "__delitem__", "__iadd__", "__imul__"):
    setattr(WatchedList, changer, refuse)


def plain_row(length):
    return [(place * 37 + place // 7 + 11) % 256 for place in range(length)]


def rows_that_are_not_bytes():
    """Rows with one wrong number, at the first, a middle and the last place."""
    rows = []
    for wrong in (-1, 256, LEAST, GREATEST):
        for length in (1, 2, 5, 9000):
            for place in sorted({0, length // 2, length - 1}):
                row = plain_row(length)
                row[place] = wrong
                rows.append(row)
    return rows


def rows_too_long():
    return [plain_row(9001), [0] * 9001, plain_row(10000), [GREATEST] * 10000]


def check_row_refusals(test, call):
    for row in rows_that_are_not_bytes() + rows_too_long():
        answer = call(row)
        test.assertEqual(answer, [-1], (len(row), min(row), max(row)))
        test.assertIs(type(answer), list)


def check_row_left_alone(test, call):
    """Neither an answer nor a refusal changes the row, and nothing is kept between two calls."""
    rows = [[], [7], plain_row(8), plain_row(9), plain_row(9000), plain_row(9001),
            [-1, 2, 3], [1, 256, 3], [1, 2, GREATEST], [LEAST]]
    for row in rows:
        before = list(row)
        first = call(WatchedList(row))
        second = call(row)
        test.assertEqual(row, before)
        test.assertEqual(first, second)
        second.append(5)
        row_again = list(before)
        test.assertEqual(call(row_again), first)
        test.assertEqual(row_again, before)
    check_calls_between(test, call, rows)


def check_calls_between(test, call, rows):
    alone = [call(row) for row in rows]
    test.assertEqual([call(row) for row in reversed(rows)], alone[::-1])
