"""The whole program: each of the eighteen calls by the interface's own words."""
import contextlib
import copy
import inspect
import io
import random
import unittest

from campuswires import wires
from watched import GREATEST, LEAST, check_form, datagram_by_words, frame_by_words, lease_by_words, packet_by_words
from watched import plain_row, question_by_words, watched, wrap_by_words

FRAME = frame_by_words(1, 2, 2048, [3, 0, 100], [7] * 42)
PACKET = packet_by_words(1, 2, 0, 0, 0, 64, 17, 5, 6, [7] * 16)
FIRST = packet_by_words(1, 2, 0, 1, 0, 64, 17, 5, 6, [7] * 8)
SECOND = packet_by_words(1, 2, 0, 0, 1, 64, 17, 5, 6, [7] * 8)
DATAGRAM = datagram_by_words(5, 6, 7, 8, [9])
LEASE = lease_by_words((1, 2, 3, 4, 5, 6, 7, 8, 9), [[1, 2], [3]])
QUESTION = question_by_words(1, 2, 3, 4, 5)
WRAPPED = wrap_by_words(1, 2, 100, 3, 5, 6, 7, 8, 9, 10, [11])

# Each call with its arguments, by name and in the order told, and with its answer.
CALLS = {
    "crc": ({"b": [49, 50, 51]}, [0, 2286445522]),
    "joined": ({"a": 6, "c": 5, "length": 0}, [0, 3]),
    "sum_of": ({"b": [1, 2, 3]}, [0, 64509]),
    "frame": ({"to": 1, "sender": 2, "kind": 2048, "tags": [3, 0, 100], "body": [7] * 42}, [0, 64] + FRAME),
    "readframe": ({"b": FRAME}, [0, 1, 2, 2048, 1, 3, 0, 100, 42] + [7] * 42),
    "packet": ({"tos": 1, "ident": 2, "keep": 0, "more": 0, "offset": 0, "hops": 64, "proto": 17, "sender": 5, "to": 6,
                "body": [7] * 16}, [0, 36] + PACKET),
    "readpacket": ({"b": PACKET}, [0, 1, 2, 0, 0, 0, 64, 17, 5, 6, 16] + [7] * 16),
    "hop": ({"b": PACKET}, [0, 36] + packet_by_words(1, 2, 0, 0, 0, 63, 17, 5, 6, [7] * 16)),
    "cut": ({"most": 28, "b": PACKET}, [0, 2, 28] + FIRST + [28] + SECOND),
    "join": ({"pieces": [SECOND, FIRST]}, [0, 36] + PACKET),
    "datagram": ({"sender": 5, "to": 6, "sport": 7, "dport": 8, "body": [9]}, [0, 9] + DATAGRAM),
    "readdatagram": ({"sender": 5, "to": 6, "b": DATAGRAM}, [0, 7, 8, 1, 9]),
    "lease": ({"op": 1, "hops": 2, "secs": 3, "number": 4, "host": 5, "mine": 6, "yours": 7, "server": 8, "relay": 9,
               "fields": [[1, 2], [3]]}, [0, 40] + LEASE),
    "readlease": ({"b": LEASE}, [0, 1, 2, 3, 4, 5, 6, 7, 8, 9, 2, 1, 1, 2, 3, 0]),
    "question": ({"op": 1, "hw": 2, "address": 3, "sought_hw": 4, "sought_address": 5}, [0, 28] + QUESTION),
    "readquestion": ({"b": QUESTION}, [0, 1, 2, 3, 4, 5]),
    "wrap": ({"to": 1, "sender": 2, "vlan": 100, "rank": 3, "source": 5, "goal": 6, "ident": 7, "hops": 8, "sport": 9,
              "dport": 10, "body": [11]}, [0, 64] + WRAPPED),
    "unwrap": ({"b": WRAPPED}, [0, 1, 2, 100, 3, 5, 6, 7, 8, 9, 10, 1, 11]),
}


def other_value(source, value):
    """Something else of the same sort that may be handed in."""
    if isinstance(value, int):
        return source.choice((LEAST, GREATEST, -1, 0, 1, 255, 256, 65536, 2 ** 32, 2 ** 48, source.randrange(10 ** 6)))
    if value and isinstance(value[0], list):
        return source.choice(([], value[:1], value * 20, [[]], [[LEAST] * 400] * 40, [plain_row(400)] * 40,
                              [other_value(source, row)[:400] for row in value]))
    changed = list(value)
    if changed:
        changed[source.randrange(len(changed))] = other_value(source, 0)
    return source.choice((changed, value[:-1], value + [0], [], plain_row(10000), [GREATEST] * 10000, [LEAST]))


class InterfaceTest(unittest.TestCase):
    def test_eighteen_calls(self):
        self.assertEqual(len(CALLS), 18)

    def test_names_and_order(self):
        for name, (handed, answer) in CALLS.items():
            parameters = inspect.signature(getattr(wires, name)).parameters.values()
            self.assertEqual([parameter.name for parameter in parameters], list(handed), name)
            self.assertEqual({parameter.default for parameter in parameters}, {inspect.Parameter.empty}, name)

    def test_answers(self):
        for name, (handed, answer) in CALLS.items():
            call = getattr(wires, name)
            self.assertEqual(call(**handed), answer, name)
            self.assertEqual(call(*handed.values()), answer, name)
            check_form(self, call(**handed))

    def test_nothing_is_printed(self):
        printed = io.StringIO()
        with contextlib.redirect_stdout(printed), contextlib.redirect_stderr(printed):
            for name, (handed, answer) in CALLS.items():
                getattr(wires, name)(**handed)
        self.assertEqual(printed.getvalue(), "")

    def test_only_join_answers_minus_8(self):
        self.assertEqual(wires.join([]), [-8])
        self.assertEqual(wires.lease(1, 2, 3, 4, 5, 6, 7, 8, 9, [])[0], 0)

    def test_whatever_may_be_handed_in_is_answered(self):
        source = random.Random(20)
        for turn in range(1500):
            name = source.choice(list(CALLS))
            handed = copy.deepcopy(CALLS[name][0])
            for place in source.sample(list(handed), source.randrange(1, min(3, len(handed)) + 1)):
                handed[place] = other_value(source, handed[place])
            before = copy.deepcopy(handed)
            answer = getattr(wires, name)(*[watched(value) for value in handed.values()])
            check_form(self, answer)
            self.assertEqual(getattr(wires, name)(**handed), answer)
            self.assertEqual(handed, before)

    def test_one_call_leaves_nothing_for_another(self):
        source = random.Random(21)
        for turn in range(20):
            names = list(CALLS)
            source.shuffle(names)
            for name in names:
                handed, answer = CALLS[name]
                self.assertEqual(getattr(wires, name)(**handed), answer, name)


if __name__ == "__main__":
    unittest.main()
