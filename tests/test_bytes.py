"""Points 12, 13 and 26: the bytes of each message, and which bytes are none."""

import copy
import random
import unittest

from batchends.wires import Wire, client_bytes, server_bytes
from tests.helpers import (as_lists, as_tuples, hello, long, packed, ready, refused, string, sync,
                           value, values, welcome)

WRITE = {"client": client_bytes, "server": server_bytes}
SIGNS = "".join([chr(code) for code in range(32, 127) if code != 37])
TEXT_SIGNS = SIGNS.replace("'", "")
ROWS = [(n, "x" * 40) for n in range(20)]

MESSAGES = {
    "client": [
        (("hello", 0, 0), hello(0, 0)),
        (("hello", 1, 50), hello(1, 50)),
        (("hello", 4294967295, 4294967295), [1, 0, 8] + [255] * 8),
        (("hello", 16909060, 84281096), [1, 0, 8, 1, 2, 3, 4, 5, 6, 7, 8]),
        (("prepare", "s", "create t"),
         [2, 0, 11, 1, 115, 8, 99, 114, 101, 97, 116, 101, 32, 116]),
        (("prepare", "a", ""), [2, 0, 3, 1, 97, 0]),
        (("prepare", "abcdefgh", "x" * 200), packed(2, string("abcdefgh"), string("x" * 200))),
        (("prepare", "z", SIGNS), packed(2, string("z"), string(SIGNS))),
        (("bind", "p", "s", ()), [3, 0, 5, 1, 112, 1, 115, 0]),
        (("bind", "p", "s", (-1, "a")),
         [3, 0, 13, 1, 112, 1, 115, 2, 0, 255, 255, 255, 255, 1, 1, 97]),
        (("bind", "portal", "other", (0, 1, 2147483647, -2147483648)),
         packed(3, string("portal"), string("other"),
                [4, 0, 0, 0, 0, 0, 0, 0, 0, 0, 1, 0, 127, 255, 255, 255, 0, 128, 0, 0, 0])),
        (("bind", "p", "s", ("", "x" * 40, TEXT_SIGNS[:40], TEXT_SIGNS[40:80])),
         packed(3, string("p"), string("s"),
                values("", "x" * 40, TEXT_SIGNS[:40], TEXT_SIGNS[40:80]))),
        (("bind", "p", "s", (TEXT_SIGNS[80:], "0", 0)),
         packed(3, string("p"), string("s"), values(TEXT_SIGNS[80:], "0", 0))),
        (("run", "p", 0), [4, 0, 4, 1, 112, 0, 0]),
        (("run", "abcdefgh", 255), packed(4, string("abcdefgh"), [0, 255])),
        (("run", "p", 256), [4, 0, 4, 1, 112, 1, 0]),
        (("run", "p", 1000), [4, 0, 4, 1, 112, 3, 232]),
        (("forget", "s"), [5, 0, 2, 1, 115]),
        (("forget", "stuvwxyz"), packed(5, string("stuvwxyz"))),
        (("close", "p"), [6, 0, 2, 1, 112]),
        (("close", "abcdefgh"), packed(6, string("abcdefgh"))),
        (("sync", 1, 0), sync(1, 0)),
        (("sync", 0, 4294967295), [7, 0, 8, 0, 0, 0, 0, 255, 255, 255, 255]),
        (("sync", 4294967295, 1), [7, 0, 8, 255, 255, 255, 255, 0, 0, 0, 1]),
    ],
    "server": [
        (("welcome", 1, 0), [1, 0, 8, 0, 0, 0, 1, 0, 0, 0, 0]),
        (("welcome", 0, 50), welcome(0, 50)),
        (("welcome", 4294967295, 4294967295), [1, 0, 8] + [255] * 8),
        (("refused", "session"), [2, 0, 8, 7, 115, 101, 115, 115, 105, 111, 110]),
        (("refused", "a"), [2, 0, 2, 1, 97]),
        (("refused", "whatever"), refused("whatever")),
        (("ready", 1, "none"), [3, 0, 5, 0, 0, 0, 1, 0]),
        (("ready", 258, "open"), [3, 0, 5, 0, 0, 1, 2, 1]),
        (("ready", 4294967295, "failed"), [3, 0, 5, 255, 255, 255, 255, 2]),
        (("ready", 0, "none"), ready(0, "none")),
        (("prepared", 0), [4, 0, 1, 0]),
        (("prepared", 1), [4, 0, 1, 1]),
        (("prepared", 4), [4, 0, 1, 4]),
        (("bound",), [5, 0, 0]),
        (("closed",), [6, 0, 0]),
        (("skipped",), [7, 0, 0]),
        (("rows", [], False), [8, 0, 2, 0, 0]),
        (("rows", [], True), [8, 0, 2, 1, 0]),
        (("rows", [(20,)], False), [8, 0, 8, 0, 1, 1, 0, 0, 0, 0, 20]),
        (("rows", [(-2, "ab"), ("k", 7), (1,), ("",)], True),
         packed(8, [1, 4], values(-2, "ab"), values("k", 7), values(1), values(""))),
        (("rows", ROWS, True), packed(8, [1, 20], *[values(*row) for row in ROWS])),
        (("complete", 0), [9, 0, 1, 0]),
        (("complete", 1), [9, 0, 1, 1]),
        (("complete", 20), [9, 0, 1, 20]),
        (("wrong", "no table"), [10, 0, 9, 8, 110, 111, 32, 116, 97, 98, 108, 101]),
        (("wrong", "a"), packed(10, string("a"))),
        (("wrong", " "), packed(10, string(" "))),
        (("wrong", "a quick brown fox is"), packed(10, string("a quick brown fox is"))),
        (("wrong", "zzzzzzzzzzzzzzzzzzzz"), packed(10, string("z" * 20))),
    ],
}
ALL = [(side, *pair) for side, pairs in MESSAGES.items() for pair in pairs]

NO_NAMES = ("", "abcdefghi", "A", "Z", "a1", "a b", " a", "a ", "a'", "`", "{", "a_", "a-", "\0",
            "\n", "a%", "\x7f", "\xe9", "\xff")
NO_TEXTS = ("x" * 41, "'", "a'b", "%", "100%", "\n", "\0", "\x1f", "\x7f", "\x80", "\xe9", "\xff")
NO_STRINGS = ("x" * 201, "x" * 255, "%", "a%b", "\n", "create t\n", "\0", "\x1f", "\x7f", "\x80",
              "\xe9", "\xff")
NO_REASONS = ("", "a" * 21, " " * 21, "A", "a1", "a-b", "a.", "no_table", "'", "%", "\0", "\n",
              "a\x1f", "`", "{", "\x7f", "\xe9", "\xff")
NAME = [1, 97]


def read(side, data):
    return Wire(side).feed(data)


class Bytes(unittest.TestCase):
    def assert_same(self, found, expected):
        """Tells True from 1, and a list from a tuple, too."""
        self.assertEqual(repr(found), repr(expected))

    def assert_none(self, side, data):
        self.assert_same(read(side, data), ([], False))


class Written(Bytes):
    def test_each_message(self):
        for side, message, data in ALL:
            with self.subTest(side, message=message):
                self.assert_same(WRITE[side](message), data)

    def test_every_length_of_a_string(self):
        for many in range(201):
            self.assert_same(client_bytes(("prepare", "a", "y" * many)),
                             [2, 0, 3 + many, 1, 97, many] + [121] * many)

    def test_lists_and_tuples(self):
        for side, message, data in ALL:
            for form in (as_lists, as_tuples):
                passed = form(message)
                before = copy.deepcopy(passed)
                with self.subTest(side, message=passed):
                    self.assert_same(WRITE[side](passed), data)
                    self.assert_same(passed, before)

    def test_what_is_returned_is_not_shared(self):
        for side, message, data in ALL:
            first = WRITE[side](message)
            first.clear()
            self.assert_same(WRITE[side](message), data)

    def test_somewhat_beyond_the_limits(self):
        """No point names an error for these."""
        client_bytes(("run", "p", 1001))
        client_bytes(("prepare", "abcdefghi", "x" * 201))
        client_bytes(("bind", "p", "s", (1, 2, 3, 4, 5, "x" * 41, 2147483648)))
        client_bytes(("hello", 4294967296, -1))
        server_bytes(("prepared", 5))
        server_bytes(("complete", 21))
        server_bytes(("wrong", "a" * 21))
        server_bytes(("rows", [(1, 2, 3)] * 21, True))


class Read(Bytes):
    def test_each_message(self):
        for side, message, data in ALL:
            with self.subTest(side, message=message):
                self.assert_same(read(side, data), ([message], True))

    def test_a_tuple_of_bytes(self):
        for side, message, data in ALL:
            self.assert_same(read(side, tuple(data)), ([message], True))

    def test_all_together(self):
        for side, pairs in MESSAGES.items():
            data = [byte for _, part in pairs for byte in part]
            self.assert_same(read(side, data), ([message for message, _ in pairs], True))

    def test_every_number(self):
        for number in (0, 1, -1, 127, 128, 255, 256, -255, -256, 65535, 65536, -65536, 16777216,
                       2147483646, 2147483647, -2147483647, -2147483648):
            with self.subTest(number):
                message = ("bind", "p", "s", (number,))
                data = [3, 0, 10, 1, 112, 1, 115, 1, 0, *(number % 2 ** 32).to_bytes(4, "big")]
                self.assert_same(client_bytes(message), data)
                self.assert_same(read("client", data), ([message], True))

    def test_every_sign(self):
        for code in range(256):
            is_sign = chr(code) in SIGNS
            data = packed(2, NAME, [1, code])
            expected = ([("prepare", "a", chr(code))], True) if is_sign else ([], False)
            with self.subTest(code):
                self.assert_same(read("client", data), expected)

    def test_every_character_of_a_text(self):
        for code in range(256):
            data = packed(8, [0, 1, 1, 1, 1, code])
            is_one = chr(code) in TEXT_SIGNS
            expected = ([("rows", [(chr(code),)], False)], True) if is_one else ([], False)
            with self.subTest(code):
                self.assert_same(read("server", data), expected)

    def test_every_character_of_a_name_and_of_a_reason(self):
        for code in range(256):
            letter = chr(code)
            with self.subTest(code):
                is_letter = 97 <= code <= 122
                self.assert_same(read("client", packed(5, [1, code])),
                                 ([("forget", letter)], True) if is_letter else ([], False))
                fits = is_letter or code == 32
                self.assert_same(read("server", packed(10, [1, code])),
                                 ([("wrong", letter)], True) if fits else ([], False))


class NoMessage(Bytes):
    def test_other_kinds(self):
        for kind in (0, 8, 9, 10, 11, 128, 255):
            for body in ([], [0] * 8, NAME):
                self.assert_none("client", packed(kind, body))
        for kind in (0, 11, 12, 128, 255):
            for body in ([], [0], [0] * 8, NAME):
                self.assert_none("server", packed(kind, body))

    def test_messages_of_the_other_side(self):
        self.assert_none("client", ready(1, "none"))
        self.assert_none("client", packed(4, [0]))
        self.assert_none("server", packed(2, NAME, string("begin")))
        self.assert_none("server", packed(4, NAME, [0, 0]))

    def test_a_byte_too_many_or_too_few(self):
        for side, message, data in ALL:
            with self.subTest(side, message=message):
                body = data[3:]
                for many in range(len(body)):
                    self.assert_none(side, packed(data[0], body[:many]))
                for more in (0, 1, 97, 255):
                    self.assert_none(side, packed(data[0], body, [more]))
                self.assert_none(side, packed(data[0], body, body[:1] or [0]))

    def test_names(self):
        for name in NO_NAMES:
            other = string(name)
            with self.subTest(name):
                self.assert_none("client", packed(2, other, string("begin")))
                self.assert_none("client", packed(3, other, NAME, [0]))
                self.assert_none("client", packed(3, NAME, other, [0]))
                self.assert_none("client", packed(4, other, [0, 0]))
                self.assert_none("client", packed(5, other))
                self.assert_none("client", packed(6, other))
                self.assert_none("server", packed(2, other))

    def test_strings(self):
        for text in NO_STRINGS:
            with self.subTest(text):
                self.assert_none("client", packed(2, NAME, string(text)))

    def test_texts(self):
        for text in NO_TEXTS:
            with self.subTest(text):
                self.assert_none("client", packed(3, NAME, NAME, values(text)))
                self.assert_none("client", packed(3, NAME, NAME, values(1, "a", text, 2)))
                self.assert_none("server", packed(8, [0, 1], values(text)))
                self.assert_none("server", packed(8, [0, 1], values(1, text)))

    def test_reasons(self):
        for reason in NO_REASONS:
            with self.subTest(reason):
                self.assert_none("server", packed(10, string(reason)))

    def test_values(self):
        self.assert_none("client", packed(3, NAME, NAME, values(1, 2, 3, 4, 5)))
        self.assert_none("client", packed(3, NAME, NAME, values("", "", "", "", "")))
        for kind in (2, 3, 128, 255):
            self.assert_none("client", packed(3, NAME, NAME, [1, kind], long(7)))
            self.assert_none("client", packed(3, NAME, NAME, [1, kind], string("a")))
            self.assert_none("server", packed(8, [0, 1, 1, kind], long(7)))

    def test_most(self):
        for most in (1001, 1002, 1024, 1255, 1256, 32768, 65535):
            self.assert_none("client", packed(4, NAME, most.to_bytes(2, "big")))

    def test_counts(self):
        for many in (5, 6, 128, 255):
            self.assert_none("server", packed(4, [many]))
        for many in (21, 22, 128, 255):
            self.assert_none("server", packed(9, [many]))
        for state in (3, 4, 255):
            self.assert_none("server", packed(3, long(1), [state]))

    def test_rows(self):
        for more in (2, 3, 128, 255):
            self.assert_none("server", packed(8, [more, 0]))
            self.assert_none("server", packed(8, [more, 1], values(1, 2)))
        self.assert_none("server", packed(8, [0, 21], *[values(n) for n in range(21)]))
        self.assert_none("server", packed(8, [0, 255], *[values(n) for n in range(255)]))
        self.assert_none("server", packed(8, [0, 1], values()))
        self.assert_none("server", packed(8, [0, 2], values(1, 2), values()))
        self.assert_none("server", packed(8, [0, 1], values(1, 2, 3)))
        self.assert_none("server", packed(8, [0, 1], values(1, 2, 3, 4)))
        self.assert_none("server", packed(8, [0, 2], values(1, 2)))
        self.assert_none("server", packed(8, [0, 1], values(1, 2), values(3, 4)))

    def test_strings_that_are_cut_off(self):
        self.assert_none("client", packed(5, [8], [97] * 7))
        self.assert_none("client", packed(5, [1], [97] * 2))
        self.assert_none("client", packed(2, NAME, [200], [97] * 199))
        self.assert_none("server", packed(10, [20], [97] * 19))
        self.assert_none("client", packed(3, NAME, NAME, [1, 1, 40], [97] * 39))
        self.assert_none("client", packed(3, NAME, NAME, [1, 0, 0, 0, 0]))
        self.assert_none("client", packed(3, NAME, NAME, [2], value(1)))


class OneForm(Bytes):
    """Point 26: whatever is read is written in the same bytes."""

    def test_changed_bytes(self):
        chance = random.Random(12)
        many_read = 0
        for side, _, data in ALL:
            for _ in range(150):
                other = list(data)
                for _ in range(chance.randrange(1, 4)):
                    at = chance.choice([0, 1, 2, *range(len(other))])
                    other[at] = chance.choice([0, 1, 2, 3, 5, 8, 39, 97, 122, 255,
                                               chance.randrange(256)])
                messages, _ = read(side, other)
                written = [byte for message in messages for byte in WRITE[side](message)]
                many_read += len(messages)
                self.assertEqual(written, other[:len(written)])
        self.assertGreater(many_read, 500)

    def test_short_bodies(self):
        for side in ("client", "server"):
            for kind in range(12):
                for first in range(256):
                    for second in (None, 0, 1, 2, 3, 32, 97, 255):
                        body = [first] if second is None else [first, second]
                        data = packed(kind, body)
                        messages, sound = read(side, data)
                        self.assertEqual(len(messages), int(sound))
                        for message in messages:
                            self.assertEqual(WRITE[side](message), data)


if __name__ == "__main__":
    unittest.main()
