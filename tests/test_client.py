"""Points 19 to 24: the client, byte for byte."""

import unittest

from batchends.client import Client
from batchends.errors import BatchFull, InvalidCommand, NoSuchBatch, NotClosed, TooManyBatches
from batchends.wires import client_bytes, server_bytes
from tests.helpers import hello, pieces, ready, refused, sync, welcome

CLOSE = client_bytes(("close", "p"))
CLOSED = server_bytes(("closed",))
SIGNS = "".join([chr(code) for code in range(32, 127) if code != 37])
TEXT_SIGNS = SIGNS.replace("'", "")
NO_MESSAGES = ([5, 0, 1, 0], [11, 0, 0], [0, 0, 0], [5, 255, 255], [3, 0, 5, 0, 0, 0, 1, 3])
COMMANDS = ("prepare", "bind", "run", "forget", "close")
# For each kind of command its replies but wrong and skipped, which fit all of them.
FITTING = {
    "prepare": (("prepared", 0), ("prepared", 4)),
    "bind": (("bound",),),
    "run": (("rows", [(1, "a"), ("b",)], True), ("rows", [], False), ("complete", 3)),
    "forget": (("closed",),),
    "close": (("closed",),),
}
ERRORS = (("wrong", "no portal"), ("skipped",))
REPLIES = (("prepared", 0), ("prepared", 4), ("bound",), ("rows", [(1, "a"), ("b",)], True),
           ("rows", [], False), ("complete", 3), ("closed",), *ERRORS)


def add(client, word):
    """Adds a command of this kind."""
    return {
        "prepare": lambda: client.prepare("s", "scan t"),
        "bind": lambda: client.bind("p", "s", ()),
        "run": lambda: client.run("p", 2),
        "forget": lambda: client.forget("s"),
        "close": lambda: client.close("p"),
    }[word]()


def take_all(client):
    return client.take(client.waiting)


def greeting():
    """A client in the phase greeting with nothing to be sent."""
    client = Client()
    client.connect()
    assert take_all(client) == hello(0, 0)
    return client


def welcomed(handed=0, received=0):
    """A client in the session 7 with so many empty batches, and nothing to be sent."""
    client = greeting()
    client.receive(welcome(7, 0))
    for _ in range(handed):
        client.sync()
    for batch in range(1, received + 1):
        client.receive(ready(batch, "none"))
    assert (client.phase, client.handed, client.received) == ("open", handed, received)
    take_all(client)
    return client


def waiting_for(*words):
    """A client that has handed a batch with these commands over."""
    client = welcomed()
    for word in words:
        add(client, word)
    client.sync()
    take_all(client)
    return client


class Checks(unittest.TestCase):
    def assert_numbers(self, client, session, handed, received):
        self.assertEqual(repr((client.session, client.handed, client.received)),
                         repr((session, handed, received)))

    def assert_ended(self, client, reason):
        self.assertEqual((client.phase, client.reason), ("ended", reason))
        self.assertEqual((client.waiting, client.take(99)), (0, []))


class Phases(Checks):
    def test_at_first(self):
        client = Client()
        self.assertEqual((client.phase, client.reason, client.waiting), ("closed", None, 0))
        self.assert_numbers(client, 0, 0, 0)
        self.assertEqual(client.take(10), [])

    def test_connect(self):
        client = Client()
        self.assertIsNone(client.connect())
        self.assertEqual((client.phase, client.reason, client.waiting), ("greeting", None, 11))
        self.assertEqual(take_all(client), hello(0, 0))

    def test_connect_raises(self):
        client = Client()
        client.connect()
        for data in ([], welcome(3, 0), [99, 0, 0]):
            client.receive(data)
            before = (client.phase, client.reason, client.waiting, client.session)
            self.assertRaises(NotClosed, client.connect)
            self.assertEqual((client.phase, client.reason, client.waiting, client.session), before)
        self.assertEqual(client.phase, "ended")

    def test_connect_that_raises_keeps_replies_and_a_part_of_a_message(self):
        client = waiting_for("close", "run")
        client.receive(CLOSED + server_bytes(("complete", 1))[:2])
        self.assertRaises(NotClosed, client.connect)
        client.receive(server_bytes(("complete", 1))[2:] + ready(1, "none"))
        self.assertEqual(client.outcome(1), ("none", [("closed",), ("complete", 1)]))

    def test_lost(self):
        client = Client()
        self.assertIsNone(client.lost())
        self.assertEqual(client.phase, "closed")
        for data in ([], welcome(3, 0), [99, 0, 0]):
            client.connect()
            client.receive(data)
            client.lost()
            self.assertEqual((client.phase, client.reason, client.waiting), ("closed", None, 0))
            self.assertEqual(client.take(99), [])

    def test_bytes_without_a_connection_are_ignored(self):
        client = Client()
        for data in (welcome(1, 0), [99, 0, 0], refused("bytes"), welcome(1, 0)[:5]):
            client.receive(data)
            self.assertEqual((client.phase, client.reason, client.session), ("closed", None, 0))
        client.connect()
        client.receive(welcome(1, 0))
        self.assertEqual((client.phase, client.session), ("open", 1))
        client.sync()
        client.lost()
        client.receive(ready(1, "none"))
        client.receive([99, 0, 0])
        self.assertEqual((client.phase, client.received), ("closed", 0))

    def test_bytes_are_ignored_when_it_is_ended(self):
        client = waiting_for()
        client.receive([99, 0, 0])
        for data in (ready(1, "none"), refused("message"), CLOSED, welcome(7, 0), [0, 0, 0]):
            client.receive(data)
            self.assert_ended(client, "bytes")
            self.assert_numbers(client, 7, 1, 0)

    def test_lost_forgets_a_part_of_a_message(self):
        client = waiting_for()
        client.receive(ready(1, "none")[:6])
        client.lost()
        client.connect()
        client.receive(welcome(7, 1) + ready(1, "none"))
        self.assertEqual(client.outcome(1), ("none", []))

    def test_lost_forgets_replies(self):
        client = waiting_for("close", "run")
        client.receive(CLOSED)
        client.lost()
        client.connect()
        client.receive(welcome(7, 1) + CLOSED + server_bytes(("complete", 1)) + ready(1, "open"))
        self.assertEqual(client.outcome(1), ("open", [("closed",), ("complete", 1)]))

    def test_ended_forgets_replies_and_a_part_of_a_message(self):
        client = waiting_for("close", "run")
        client.receive(CLOSED + refused("bytes") + ready(1, "none")[:3])
        client.lost()
        client.connect()
        client.receive(welcome(7, 1) + CLOSED + server_bytes(("complete", 1)) + ready(1, "open"))
        self.assertEqual(client.outcome(1), ("open", [("closed",), ("complete", 1)]))

    def test_lost_forgets_what_is_to_be_sent(self):
        client = welcomed()
        client.sync()
        self.assertEqual(client.take(4), sync(1, 0)[:4])
        client.lost()
        self.assertEqual(client.waiting, 0)
        client.connect()
        self.assertEqual(take_all(client), hello(7, 0))

    def test_ended_forgets_what_is_to_be_sent(self):
        for bad in ([99, 0, 0], refused("a"), welcome(7, 0), CLOSED):
            client = welcomed(1, 1)
            client.sync()
            client.receive(bad)
            self.assertEqual((client.phase, client.waiting, client.take(9)), ("ended", 0, []))
        client = Client()
        client.connect()
        client.receive(refused("session"))
        self.assert_ended(client, "session")

    def test_nothing_is_sent_when_it_is_ended(self):
        client = welcomed()
        client.receive([99, 0, 0])
        client.close("p")
        self.assertEqual(client.sync(), 1)
        self.assert_ended(client, "bytes")
        self.assertEqual(client.handed, 1)


class Hello(Checks):
    def test_its_numbers(self):
        client = Client()
        client.sync()
        client.connect()
        self.assertEqual(take_all(client), hello(0, 0))
        client.receive(welcome(258, 0))
        client.receive(ready(1, "none"))
        client.lost()
        client.connect()
        self.assertEqual(take_all(client), hello(258, 1))
        client.lost()
        client.connect()
        self.assertEqual(take_all(client), hello(258, 1))

    def test_it_does_not_change_afterwards(self):
        client = Client()
        client.connect()
        client.receive(welcome(9, 0))
        client.sync()
        client.receive(ready(1, "none"))
        self.assertEqual(take_all(client), hello(0, 0) + sync(1, 0))


class Welcome(Checks):
    def test_the_first_session(self):
        for session in (1, 2, 4294967295):
            client = greeting()
            self.assertIsNone(client.receive(welcome(session, 0)))
            self.assertEqual((client.phase, client.reason, client.waiting), ("open", None, 0))
            self.assert_numbers(client, session, 0, 0)

    def test_no_session(self):
        client = greeting()
        client.receive(welcome(0, 0))
        self.assert_ended(client, "welcome")
        self.assert_numbers(client, 0, 0, 0)

    def test_another_session(self):
        for session in (0, 6, 8, 4294967295):
            client = welcomed()
            client.lost()
            client.connect()
            client.receive(welcome(session, 0))
            self.assert_ended(client, "welcome")
            self.assert_numbers(client, 7, 0, 0)

    def test_numbers_of_batches(self):
        for done in range(8):
            client = welcomed(5, 2)
            client.lost()
            client.connect()
            take_all(client)
            client.receive(welcome(7, done))
            if 2 <= done <= 5:
                self.assertEqual((client.phase, client.reason), ("open", None))
                self.assertEqual(take_all(client), [byte for batch in range(done + 1, 6)
                                                    for byte in sync(batch, 2)])
            else:
                self.assert_ended(client, "welcome")
            self.assert_numbers(client, 7, 5, 2)

    def test_batches_that_were_handed_over_before(self):
        client = Client()
        for word in COMMANDS:
            add(client, word)
        client.sync()
        client.sync()
        client.close("p")
        client.sync()
        client.forget("more")
        self.assertEqual(client.waiting, 0)
        client.connect()
        self.assertEqual(take_all(client), hello(0, 0))
        client.receive(welcome(1, 0))
        self.assertEqual(take_all(client), [
            *client_bytes(("prepare", "s", "scan t")), *client_bytes(("bind", "p", "s", ())),
            *client_bytes(("run", "p", 2)), *client_bytes(("forget", "s")), *CLOSE,
            *sync(1, 0), *sync(2, 0), *CLOSE, *sync(3, 0)])

    def test_only_what_was_not_run_is_sent_again(self):
        client = waiting_for("close")
        client.forget("a")
        client.sync()
        client.sync()
        client.lost()
        client.connect()
        take_all(client)
        client.receive(welcome(7, 1))
        self.assertEqual(take_all(client),
                         client_bytes(("forget", "a")) + sync(2, 0) + sync(3, 0))

    def test_batches_without_a_first_session(self):
        """More batches than were handed over can't have been run."""
        client = Client()
        client.sync()
        for done, phase in ((2, "ended"), (1, "open")):
            client.connect()
            client.receive(welcome(1, done))
            self.assertEqual(client.phase, phase)
            client.lost()
        self.assertEqual(client.session, 1)

    def test_after_it_was_ended(self):
        client = welcomed(1)
        client.receive(refused("bytes"))
        client.lost()
        self.assertEqual((client.phase, client.reason), ("closed", None))
        client.connect()
        self.assertEqual((client.phase, client.reason), ("greeting", None))
        client.receive(welcome(7, 0))
        self.assertEqual((client.phase, client.reason), ("open", None))
        self.assertEqual(take_all(client), hello(7, 0) + sync(1, 0))


class Batches(Checks):
    def test_places_and_numbers(self):
        client = Client()
        for batch in (1, 2, 3):
            for place, word in enumerate(COMMANDS):
                found = add(client, word)
                self.assertEqual(repr(found), repr(place))
            self.assertEqual(repr(client.sync()), repr(batch))
            self.assertEqual(client.handed, batch)

    def test_each_batch_is_sent(self):
        client = welcomed()
        client.prepare("s", "put t $1 $2")
        client.bind("p", "s", [-1, "a"])
        client.run("p")
        client.run("p", 0)
        client.run("p", 1000)
        client.run("p", most=1)
        self.assertEqual(client.waiting, 0)
        client.sync()
        data = [*client_bytes(("prepare", "s", "put t $1 $2")),
                *client_bytes(("bind", "p", "s", (-1, "a"))), *client_bytes(("run", "p", 0)),
                *client_bytes(("run", "p", 0)), *client_bytes(("run", "p", 1000)),
                *client_bytes(("run", "p", 1)), *sync(1, 0)]
        self.assertEqual(client.waiting, len(data))
        self.assertEqual(take_all(client), data)
        client.sync()
        self.assertEqual(take_all(client), sync(2, 0))

    def test_commands_that_were_not_handed_over_stay(self):
        client = Client()
        client.close("p")
        client.connect()
        self.assertEqual(client.close("p"), 1)
        client.receive(welcome(1, 0))
        self.assertEqual(client.close("p"), 2)
        client.receive([99, 0, 0])
        self.assertEqual(client.close("p"), 3)
        client.lost()
        self.assertEqual(client.close("p"), 4)
        client.connect()
        client.receive(welcome(1, 0))
        self.assertEqual(take_all(client), hello(1, 0))
        client.sync()
        self.assertEqual(take_all(client), CLOSE * 5 + sync(1, 0))

    def test_nothing_is_sent_in_greeting(self):
        client = greeting()
        client.close("p")
        client.sync()
        self.assertEqual(client.waiting, 0)

    def test_the_number_of_outcomes_is_that_of_the_moment(self):
        client = welcomed(3)
        client.receive(ready(1, "none"))
        client.sync()
        client.receive(ready(2, "none") + ready(3, "none"))
        client.sync()
        self.assertEqual(take_all(client), sync(4, 1) + sync(5, 3))

    def test_the_twentieth_and_the_twenty_first_command(self):
        client = welcomed()
        for place in range(20):
            self.assertEqual(client.close("p"), place)
        for word in COMMANDS:
            self.assertRaises(BatchFull, add, client, word)
        client.sync()
        self.assertEqual(take_all(client), CLOSE * 20 + sync(1, 0))
        self.assertEqual(client.close("p"), 0)

    def test_the_fiftieth_and_the_fifty_first_batch(self):
        client = welcomed(49)
        client.close("p")
        self.assertEqual(client.sync(), 50)
        client.forget("a")
        before = client.waiting
        self.assertRaises(TooManyBatches, client.sync)
        self.assertEqual((client.handed, client.waiting), (50, before))
        self.assertEqual(take_all(client), CLOSE + sync(50, 0))
        self.assertEqual(client.forget("b"), 1)
        self.assertRaises(NoSuchBatch, client.outcome, 51)
        for batch in range(1, 50):
            client.receive(ready(batch, "none"))
        client.receive(CLOSED + ready(50, "open"))
        self.assertRaises(TooManyBatches, client.sync)
        self.assertEqual((client.phase, client.received), ("open", 50))
        self.assertEqual(client.outcome(50), ("open", [("closed",)]))


class WrongParts(Checks):
    NO_NAMES = ("", "abcdefghi", "A", "aB", "a1", "a b", " ", "a\n", "\xe9", "\u0430", "%", "'",
                None, 1, True, ("a",), ["a"], b"a", {}, 1.5, object())
    NO_STRINGS = ("x" * 201, "%", "\n", "create t\n", "\t", "\0", "\x1f", "\x7f", "\x80", "\xe9",
                  "\u20ac", "\ud800", None, 0, True, ("begin",), ["b", "c"], b"begin", {}, object())
    NO_VALUES = ("", "abc", None, 1, {}, {1: 2}, {1, 2}, range(2), b"ab", iter([1]), object(), True,
                 (1, 2, 3, 4, 5), [1] * 5, ("x" * 41,), ("'",), ("a%",), ("\n",), ("\xe9",),
                 (2147483648,), (-2147483649,), (True,), (False,), [1, True], (None,), (1.0,),
                 (1, (2,)), ([1],), (b"a",), (1, 2, 3, "x" * 41), (object(),))
    NO_MOST = (-1, 1001, 1002, 65536, True, False, None, "1", 1.0, (1,), [], b"1", object())

    def assert_invalid(self, client, add_it):
        before = client.waiting
        with self.assertRaises(InvalidCommand) as caught:
            add_it()
        self.assertIs(caught.exception.__class__, InvalidCommand)
        self.assertEqual(client.waiting, before)

    def each_invalid(self, client):
        """All calls that raise InvalidCommand."""
        for name in self.NO_NAMES:
            for call in (lambda: client.prepare(name, "begin"), lambda: client.bind(name, "s", ()),
                         lambda: client.bind("p", name, ()), lambda: client.run(name),
                         lambda: client.run(name, 1), lambda: client.forget(name),
                         lambda: client.close(name)):
                yield name, call
        for string in self.NO_STRINGS:
            yield string, lambda: client.prepare("s", string)
        for values in self.NO_VALUES:
            yield values, lambda: client.bind("p", "s", values)
        for most in self.NO_MOST:
            yield most, lambda: client.run("p", most)

    def test_nothing_changes(self):
        client = welcomed()
        client.close("p")
        for what, call in self.each_invalid(client):
            with self.subTest(repr(what)):
                self.assert_invalid(client, call)
        self.assertEqual(client.forget("a"), 1)
        client.sync()
        self.assertEqual(take_all(client), CLOSE + client_bytes(("forget", "a")) + sync(1, 0))

    def test_before_batch_full(self):
        client = welcomed()
        for _ in range(20):
            client.close("p")
        for what, call in self.each_invalid(client):
            with self.subTest(repr(what)):
                self.assert_invalid(client, call)

    def test_the_edges(self):
        client = welcomed()
        client.prepare("abcdefgh", "x" * 200)
        client.prepare("z", "")
        client.prepare("z", SIGNS)
        client.bind("abcdefgh", "stuvwxyz", (2147483647, -2147483648, "x" * 40, ""))
        client.bind("a", "z", [])
        client.bind("a", "z", [TEXT_SIGNS[:40], TEXT_SIGNS[40:80], TEXT_SIGNS[80:], 0])
        client.run("abcdefgh", 0)
        client.run("z", 1000)
        client.sync()
        self.assertEqual(take_all(client), [
            *client_bytes(("prepare", "abcdefgh", "x" * 200)), *client_bytes(("prepare", "z", "")),
            *client_bytes(("prepare", "z", SIGNS)),
            *client_bytes(("bind", "abcdefgh", "stuvwxyz",
                           (2147483647, -2147483648, "x" * 40, ""))),
            *client_bytes(("bind", "a", "z", ())),
            *client_bytes(("bind", "a", "z",
                           (TEXT_SIGNS[:40], TEXT_SIGNS[40:80], TEXT_SIGNS[80:], 0))),
            *client_bytes(("run", "abcdefgh", 0)),
            *client_bytes(("run", "z", 1000)), *sync(1, 0)])

    def test_unreadable_strings_may_be_prepared(self):
        client = Client()
        for string in ("", " ", "get t $9", "'", "begin ", "''''"):
            client.prepare("s", string)
        self.assertEqual(client.close("p"), 6)

    def test_values_that_are_changed_afterwards(self):
        client = Client()
        values = [1, "a"]
        client.bind("p", "s", values)
        self.assertEqual(values, [1, "a"])
        values[0] = 2
        values.append(3)
        client.sync()
        values.clear()
        client.connect()
        client.receive(welcome(1, 0))
        self.assertEqual(take_all(client)[11:],
                         client_bytes(("bind", "p", "s", (1, "a"))) + sync(1, 0))


class Replies(Checks):
    def test_each_reply_to_each_command(self):
        for word in COMMANDS:
            for reply in REPLIES:
                client = waiting_for(word)
                client.receive(server_bytes(reply))
                with self.subTest(word, reply=reply):
                    if reply in FITTING[word] + ERRORS:
                        self.assertEqual((client.phase, client.reason), ("open", None))
                        self.assertIsNone(client.outcome(1))
                        client.receive(ready(1, "failed"))
                        self.assertEqual(repr(client.outcome(1)), repr(("failed", [reply])))
                    else:
                        self.assert_ended(client, "reply")

    def test_in_order(self):
        client = waiting_for(*COMMANDS)
        replies = [FITTING[word][0] for word in COMMANDS]
        for reply in replies:
            client.receive(server_bytes(reply))
            self.assertEqual((client.phase, client.received), ("open", 0))
            self.assertIsNone(client.outcome(1))
        client.receive(ready(1, "open"))
        self.assert_numbers(client, 7, 1, 1)
        self.assertEqual(repr(client.outcome(1)), repr(("open", replies)))

    def test_replies_to_several_batches(self):
        client = waiting_for("close", "close")
        client.run("p")
        client.sync()
        client.sync()
        self.assertEqual(client.received, 0)
        client.receive(CLOSED * 2 + ready(1, "none") + server_bytes(("complete", 2))
                       + ready(2, "open") + ready(3, "failed"))
        self.assert_numbers(client, 7, 3, 3)
        self.assertEqual([client.outcome(batch) for batch in (1, 2, 3)],
                         [("none", [("closed",)] * 2), ("open", [("complete", 2)]), ("failed", [])])

    def test_no_command_is_left(self):
        for words in ((), ("close",), ("close", "close")):
            for reply in (("closed",), ("skipped",), ("wrong", "failed")):
                client = waiting_for(*words)
                client.receive(CLOSED * len(words))
                self.assertEqual(client.phase, "open")
                client.receive(server_bytes(reply))
                self.assert_ended(client, "reply")
        client = waiting_for("close")
        client.close("p")
        client.sync()
        client.receive(CLOSED * 2)
        self.assert_ended(client, "reply")

    def test_no_batch_is_left(self):
        for data in (CLOSED, server_bytes(("skipped",)), ready(1, "none"), ready(2, "none"),
                     ready(3, "none"), ready(0, "none")):
            client = welcomed(1, 1)
            client.close("p")
            client.receive(data)
            self.assert_ended(client, "reply")
            self.assert_numbers(client, 7, 1, 1)
            client = welcomed()
            client.close("p")
            client.receive(data)
            self.assert_ended(client, "reply")

    def test_another_ready(self):
        for batch in (0, 1, 2, 4, 5, 256 + 3, 4294967295):
            client = welcomed(5, 2)
            client.receive(ready(batch, "none"))
            self.assert_ended(client, "reply")
            self.assert_numbers(client, 7, 5, 2)

    def test_ready_before_all_replies(self):
        for many in range(3):
            client = waiting_for("close", "close", "close")
            client.receive(CLOSED * many + ready(1, "none"))
            self.assert_ended(client, "reply")
            self.assertIsNone(client.outcome(1))

    def test_replies_to_a_batch_whose_bytes_were_not_taken(self):
        client = welcomed()
        client.close("p")
        client.sync()
        client.receive(CLOSED + ready(1, "none"))
        self.assertEqual(client.outcome(1), ("none", [("closed",)]))
        self.assertEqual(take_all(client), CLOSE + sync(1, 0))

    def test_replies_after_the_connection_was_made_again(self):
        client = waiting_for("close")
        client.run("p")
        client.sync()
        client.lost()
        client.connect()
        client.receive(welcome(7, 2) + CLOSED + ready(1, "open") + server_bytes(("complete", 1))
                       + ready(2, "none"))
        self.assertEqual((client.outcome(1), client.outcome(2)),
                         (("open", [("closed",)]), ("none", [("complete", 1)])))
        self.assertEqual(take_all(client), hello(7, 0))


class Reasons(Checks):
    def test_refused(self):
        for word in ("session", "toolong", "notnext", "message", "bytes", "reply", "a", "whatever"):
            for client in (greeting(), welcomed(), waiting_for("close")):
                client.receive(refused(word))
                self.assert_ended(client, word)

    def test_other_messages_in_greeting(self):
        for data in (ready(1, "none"), ready(0, "none"), *map(server_bytes, REPLIES)):
            client = Client()
            client.close("p")
            client.sync()
            client.connect()
            client.receive(data)
            self.assert_ended(client, "message")
            self.assert_numbers(client, 0, 1, 0)

    def test_welcome_in_open(self):
        for data in (welcome(7, 0), welcome(8, 0), welcome(0, 0), welcome(7, 99)):
            client = waiting_for()
            client.receive(data)
            self.assert_ended(client, "message")
            self.assert_numbers(client, 7, 1, 0)

    def test_no_messages(self):
        for data in NO_MESSAGES:
            for client in (greeting(), welcomed(), waiting_for("close")):
                client.receive(data)
                self.assert_ended(client, "bytes")

    def test_no_message_behind_messages(self):
        client = greeting()
        client.sync()
        client.receive(welcome(3, 0) + ready(1, "none") + [11, 0, 0] + ready(2, "none"))
        self.assert_ended(client, "bytes")
        self.assert_numbers(client, 3, 1, 1)

    def test_bytes_behind_the_end_are_ignored(self):
        for end, reason in ((refused("session"), "session"), (CLOSED, "message"),
                            (welcome(0, 0), "welcome")):
            for more in ([11, 0, 0], welcome(1, 0), refused("a"), [5, 255, 255], [1]):
                client = greeting()
                client.receive(end + more)
                self.assert_ended(client, reason)
                self.assert_numbers(client, 0, 0, 0)
        for more in ([11, 0, 0], ready(1, "none"), refused("a")):
            client = waiting_for()
            client.receive(CLOSED + more)
            self.assert_ended(client, "reply")
            self.assert_numbers(client, 7, 1, 0)


class Outcomes(Checks):
    def test_no_such_batch(self):
        client = welcomed(2, 1)
        for batch in (0, -1, 3, 4, 51, 10 ** 9, True, False, None, "1", 1.0, 2.0, (1,), [1], b"1",
                      {}, object()):
            with self.subTest(repr(batch)):
                self.assertRaises(NoSuchBatch, client.outcome, batch)
        self.assertRaises(NoSuchBatch, Client().outcome, 1)

    def test_received_and_not_received(self):
        client = welcomed(3, 2)
        self.assertEqual([client.outcome(batch) for batch in (1, 2, 3)],
                         [("none", []), ("none", []), None])

    def test_they_stay(self):
        client = waiting_for("close")
        client.receive(CLOSED + ready(1, "open"))
        client.lost()
        self.assertEqual(client.outcome(1), ("open", [("closed",)]))
        client.connect()
        client.receive([99, 0, 0])
        self.assertEqual(client.outcome(1), ("open", [("closed",)]))

    def test_what_is_returned_is_not_shared(self):
        client = waiting_for("run", "close")
        rows = ("rows", [(1, "a"), ("b", 2)], True)
        client.receive(server_bytes(rows) + CLOSED + ready(1, "none"))
        expected = ("none", [rows, ("closed",)])
        first, second = client.outcome(1), client.outcome(1)
        first[1][0][1].clear()
        first[1].clear()
        self.assertEqual(second, expected)
        self.assertEqual(client.outcome(1), expected)
        client.sync()
        client.receive(ready(2, "none"))
        client.lost()
        self.assertEqual(second, expected)

    def test_the_kinds_of_what_is_returned(self):
        client = waiting_for("run")
        client.receive(server_bytes(("rows", [(1, "a"), (0,)], True)) + ready(1, "none"))
        self.assertEqual(repr(client.outcome(1)),
                         "('none', [('rows', [(1, 'a'), (0,)], True)])")


class Pieces(Checks):
    SCRIPTS = (
        welcome(4, 0) + CLOSED * 3 + ready(1, "none") + server_bytes(("rows", [(1, 2)], False))
        + ready(2, "open"),
        welcome(4, 1) + CLOSED * 3 + ready(1, "none") + refused("message") + ready(2, "none"),
        welcome(4, 2) + CLOSED + [8, 0, 1, 0] + CLOSED,
        welcome(4, 3) + CLOSED,
    )

    def client(self):
        client = Client()
        for word in ("close", "forget", "close"):
            add(client, word)
        client.sync()
        client.run("p")
        client.sync()
        client.connect()
        return client

    def test_each_size(self):
        for script in self.SCRIPTS:
            whole = self.client()
            whole.receive(script)
            sent = take_all(whole)
            for size in (1, 2, 3, 5, 11, 20, len(script)):
                client = self.client()
                for part in pieces(script, size):
                    client.receive(tuple(part))
                    client.receive([])
                self.assertEqual((client.phase, client.reason, client.received, client.session),
                                 (whole.phase, whole.reason, whole.received, whole.session))
                self.assertEqual([client.outcome(batch) for batch in (1, 2)],
                                 [whole.outcome(batch) for batch in (1, 2)])
                self.assertEqual(take_all(client), sent)

    def test_take(self):
        client = welcomed()
        for _ in range(20):
            client.close("p")
        client.sync()
        data = CLOSE * 20 + sync(1, 0)
        self.assertEqual(client.take(0), [])
        self.assertEqual(client.waiting, len(data))
        found = []
        for most in (1, 0, 2, 50, 3, 1):
            part = client.take(most)
            self.assertIs(type(part), list)
            self.assertEqual(len(part), most)
            found += part
            self.assertEqual(client.waiting, len(data) - len(found))
        client.sync()
        found += client.take(10 ** 9)
        self.assertEqual(found, data + sync(2, 0))
        self.assertEqual((client.waiting, client.take(1), client.take(0)), (0, [], []))

    def test_bytes_are_not_shared(self):
        client = waiting_for("close")
        data = CLOSED + ready(1, "none")
        part = data[:7]
        client.receive(part)
        self.assertEqual(part, data[:7])
        part[5] = 9
        client.receive(data[7:])
        self.assertEqual(client.outcome(1), ("none", [("closed",)]))
        client.sync()
        client.take(2).clear()
        kept = client.take(2)
        client.take(5)
        self.assertEqual(kept, sync(2, 1)[2:4])
        self.assertEqual(take_all(client), sync(2, 1)[9:])


if __name__ == "__main__":
    unittest.main()
