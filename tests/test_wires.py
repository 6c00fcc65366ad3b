"""Points 14 and 26: messages that arrive in pieces, and when bytes are no message."""

import random
import unittest

from batchends.wires import Wire, client_bytes, server_bytes
from tests.helpers import packed, pieces, string
from tests.test_bytes import MESSAGES

NAME = [1, 97]
CLOSE = packed(6, NAME)
CLOSED = ("close", "a")
BAD = packed(6, [1, 65])


def fed(wire, parts):
    """What a wire returns for several pieces: all messages, and whether each piece was sound."""
    messages, flags = [], []
    for part in parts:
        found, sound = wire.feed(part)
        messages.extend(found)
        flags.append(sound)
    return messages, flags


class Pieces(unittest.TestCase):
    def test_each_size(self):
        for side, pairs in MESSAGES.items():
            data = [byte for _, part in pairs for byte in part]
            expected = [message for message, _ in pairs]
            for size in (1, 2, 3, 4, 5, 7, 10, 64, 500, len(data) - 1, len(data)):
                with self.subTest(side, size=size):
                    messages, flags = fed(Wire(side), pieces(data, size))
                    self.assertEqual(repr(messages), repr(expected))
                    self.assertTrue(all(flags))

    def test_each_message_is_told_with_its_last_byte(self):
        for side, pairs in MESSAGES.items():
            wire = Wire(side)
            for message, data in pairs:
                for byte in data[:-1]:
                    self.assertEqual(repr(wire.feed([byte])), "([], True)")
                self.assertEqual(repr(wire.feed(data[-1:])), repr(([message], True)))

    def test_a_piece_of_no_bytes(self):
        wire = Wire("client")
        self.assertEqual(wire.feed([]), ([], True))
        self.assertEqual(wire.feed(CLOSE[:4]), ([], True))
        self.assertEqual(wire.feed([]), ([], True))
        self.assertEqual(wire.feed(()), ([], True))
        self.assertEqual(wire.feed(CLOSE[4:]), ([CLOSED], True))
        self.assertEqual(wire.feed([]), ([], True))

    def test_a_message_and_a_part(self):
        wire = Wire("client")
        self.assertEqual(wire.feed(CLOSE + CLOSE + CLOSE[:2]), ([CLOSED, CLOSED], True))
        self.assertEqual(wire.feed(CLOSE[2:] + CLOSE), ([CLOSED, CLOSED], True))

    def test_two_wires(self):
        one, other = Wire("client"), Wire("client")
        one.feed(CLOSE[:3])
        self.assertEqual(other.feed(CLOSE), ([CLOSED], True))
        self.assertEqual(one.feed(CLOSE[3:]), ([CLOSED], True))

    def test_what_is_passed_and_returned_is_not_shared(self):
        wire = Wire("client")
        data = CLOSE[:4]
        wire.feed(data)
        self.assertEqual(data, CLOSE[:4])
        data[0] = 99
        data.append(99)
        found, _ = wire.feed(CLOSE[4:])
        self.assertEqual(found, [CLOSED])
        wire.feed(CLOSE)
        self.assertEqual(found, [CLOSED])
        found.append("more")
        self.assertEqual(wire.feed(CLOSE), ([CLOSED], True))

    def test_what_is_passed_last_is_not_shared(self):
        """The wire keeps the rest of a message."""
        wire = Wire("server")
        first = server_bytes(("rows", [(1, "a")], True))
        data = first + first[:9]
        found, _ = wire.feed(data)
        data.clear()
        found[0][1].clear()
        self.assertEqual(wire.feed(first[9:]), ([("rows", [(1, "a")], True)], True))


class Lengths(unittest.TestCase):
    def test_above_4000(self):
        """Told as soon as three bytes have arrived, whatever the kind is."""
        for high, low in ((15, 161), (16, 0), (255, 255), (32, 0)):
            for kind in (0, 1, 3, 6, 8, 99):
                for side in ("client", "server"):
                    wire = Wire(side)
                    self.assertEqual(wire.feed([kind, high]), ([], True))
                    self.assertEqual(wire.feed([low]), ([], False))

    def test_4000(self):
        """Told as soon as the body has arrived."""
        for kind in (0, 3, 6, 99):
            for side in ("client", "server"):
                wire = Wire(side)
                self.assertEqual(wire.feed([kind, 15, 160] + [97] * 3999), ([], True))
                self.assertEqual(wire.feed([97]), ([], False))

    def test_another_kind_or_length_is_told_with_the_body(self):
        for data in (packed(77, NAME), packed(0, [0]), packed(6, [5, 97, 97]), packed(6, [0, 0]),
                     packed(6, [1, 97, 97]), packed(4, NAME, [255, 255]), packed(1, [0] * 9),
                     packed(2, [9, 65, 65], [0])):
            wire = Wire("client")
            self.assertEqual(wire.feed(data[:-1]), ([], True))
            self.assertEqual(wire.feed(data[-1:]), ([], False))

    def test_no_body(self):
        for kind in (0, 1, 2, 6, 7, 8, 200):
            wire = Wire("client")
            self.assertEqual(wire.feed([kind]), ([], True))
            self.assertEqual(wire.feed([0]), ([], True))
            self.assertEqual(wire.feed([0]), ([], False))

    def test_the_longest_messages(self):
        for side, message in (
                ("client", ("bind", "abcdefgh", "abcdefgh", ("x" * 40,) * 4)),
                ("client", ("prepare", "abcdefgh", "x" * 200)),
                ("server", ("rows", [("x" * 40, "y" * 40)] * 20, True))):
            data = client_bytes(message) if side == "client" else server_bytes(message)
            for size in (1, 100, 4000):
                self.assertEqual(fed(Wire(side), pieces(data, size))[0], [message])


class Broken(unittest.TestCase):
    def test_messages_before(self):
        for bad in (BAD, [6, 255, 255], packed(9, NAME)):
            wire = Wire("client")
            self.assertEqual(wire.feed(CLOSE + CLOSE + bad + CLOSE), ([CLOSED, CLOSED], False))

    def test_messages_behind(self):
        for bad in (BAD, [6, 255, 255], packed(9, NAME)):
            wire = Wire("client")
            self.assertEqual(wire.feed(bad), ([], False))
            for data in (CLOSE, [], CLOSE[:3], CLOSE[3:], bad, CLOSE * 5):
                self.assertEqual(repr(wire.feed(data)), "([], False)")

    def test_what_is_returned_is_not_shared(self):
        wire = Wire("client")
        wire.feed(BAD)
        wire.feed(CLOSE)[0].append("more")
        self.assertEqual(wire.feed(CLOSE), ([], False))

    def test_pieces_make_no_difference(self):
        chance = random.Random(14)
        for _ in range(400):
            side = chance.choice(("client", "server"))
            data = [byte for _ in range(3) for byte in chance.choice(MESSAGES[side])[1]]
            for _ in range(chance.randrange(3)):
                data[chance.randrange(len(data))] = chance.choice((0, 1, 2, 16, 97, 255))
            data = data[:300]
            expected, sound = Wire(side).feed(data)
            for size in (1, 2, 3, 5, chance.randrange(1, 50)):
                messages, flags = fed(Wire(side), pieces(data, size))
                self.assertEqual(messages, expected)
                self.assertEqual(flags[-1], sound)
                self.assertEqual(sorted(flags, reverse=True), flags)

    def test_a_string_that_is_longer_than_the_body(self):
        self.assertEqual(Wire("client").feed(packed(6, [8, 97]) + string("a" * 7)), ([], False))


if __name__ == "__main__":
    unittest.main()
