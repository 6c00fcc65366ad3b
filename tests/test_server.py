"""Points 15 to 18 and 24: the server, byte for byte."""

import unittest

from batchends.errors import NotClosed
from batchends.server import Server
from batchends.wires import client_bytes, server_bytes
from tests.helpers import commands_of, hello, packed, pieces, ready, refused, sync, welcome

NO_MESSAGES = ([6, 0, 2, 1, 65], [9, 0, 0], [0, 0, 0], [6, 255, 255], [4, 0, 4, 1, 97, 255, 255])
CLOSE = client_bytes(("close", "p"))
CLOSED = server_bytes(("closed",))


def commands_bytes(commands):
    return [byte for command in commands for byte in client_bytes(command)]


def batch_bytes(statement, batch, received):
    """The bytes of a batch that runs one statement."""
    return commands_bytes(commands_of(statement)) + sync(batch, received)


def outcome_bytes(batch, state, *replies):
    return [byte for reply in replies for byte in server_bytes(reply)] + ready(batch, state)


def ran(batch, reply, state="none"):
    """The bytes of the outcome of a batch that ran one statement without parameters."""
    return outcome_bytes(batch, state, ("closed",), ("closed",), ("prepared", 0), ("bound",), reply)


def take_all(server):
    return server.take(server.waiting)


def greeted():
    """A server with its first session and nothing to be sent."""
    server = Server()
    server.accept()
    server.receive(hello(0, 0))
    assert take_all(server) == welcome(1, 0)
    return server


def with_batches(many, known=0):
    """A server that has run so many empty batches; all but the last knew of some outcomes."""
    server = greeted()
    for batch in range(1, many + 1):
        server.receive(sync(batch, min(known, batch - 1)))
    take_all(server)
    return server


def again(server, *data):
    """Loses the connection, makes a new one, passes bytes, and returns what is to be sent."""
    server.lost()
    server.accept()
    for part in data:
        server.receive(part)
    return take_all(server)


class Checks(unittest.TestCase):
    def assert_numbers(self, server, session, done, known):
        self.assertEqual(repr((server.session, server.done, server.known)),
                         repr((session, done, known)))

    def assert_refused(self, server, reason):
        """The server has just refused, and has nothing else to be sent."""
        self.assertEqual((server.phase, server.reason), ("ended", reason))
        self.assertEqual(server.waiting, len(refused(reason)))
        self.assertEqual(take_all(server), refused(reason))


class Phases(Checks):
    def test_at_first(self):
        server = Server()
        self.assertEqual((server.phase, server.reason, server.waiting), ("closed", None, 0))
        self.assert_numbers(server, 0, 0, 0)
        self.assertEqual(server.tables(), [])
        self.assertEqual(server.take(10), [])

    def test_accept(self):
        server = Server()
        self.assertIsNone(server.accept())
        self.assertEqual((server.phase, server.reason, server.waiting), ("greeting", None, 0))

    def test_accept_raises(self):
        server = Server()
        server.accept()
        for data in ([], hello(0, 0), sync(9, 9)):
            server.receive(data)
            before = (server.phase, server.reason, server.waiting, server.session)
            self.assertRaises(NotClosed, server.accept)
            self.assertEqual((server.phase, server.reason, server.waiting, server.session), before)
        self.assertEqual(server.phase, "ended")

    def test_accept_that_raises_keeps_a_part_of_a_message(self):
        server = greeted()
        server.receive(CLOSE + sync(1, 0)[:5])
        self.assertRaises(NotClosed, server.accept)
        server.receive(sync(1, 0)[5:])
        self.assertEqual(take_all(server), CLOSED + ready(1, "none"))

    def test_lost(self):
        server = Server()
        self.assertIsNone(server.lost())
        self.assertEqual(server.phase, "closed")
        for data in ([], hello(0, 0), sync(9, 9)):
            server.accept()
            server.receive(data)
            server.lost()
            self.assertEqual((server.phase, server.reason, server.waiting), ("closed", None, 0))
            self.assertEqual(server.take(99), [])

    def test_bytes_without_a_connection_are_ignored(self):
        server = Server()
        for data in (hello(0, 0), [99, 0, 0], sync(1, 0), CLOSE, hello(0, 0)[:7]):
            server.receive(data)
            self.assertEqual((server.phase, server.waiting, server.session), ("closed", 0, 0))
        server.accept()
        server.receive(hello(0, 0))
        self.assertEqual((server.phase, server.session), ("open", 1))
        server.lost()
        server.receive(sync(1, 0))
        server.receive(CLOSE)
        self.assert_numbers(server, 1, 0, 0)
        self.assertEqual(again(server, hello(1, 0), sync(1, 0)), welcome(1, 0) + ready(1, "none"))

    def test_bytes_are_ignored_when_it_is_ended(self):
        server = greeted()
        server.receive([99, 0, 0])
        for data in (sync(1, 0), CLOSE, [99, 0, 0], hello(0, 0), hello(1, 0)):
            server.receive(data)
            self.assertEqual((server.phase, server.reason), ("ended", "bytes"))
            self.assert_numbers(server, 1, 0, 0)
        self.assert_refused(server, "bytes")

    def test_lost_forgets_a_part_of_a_message(self):
        server = greeted()
        server.receive(sync(1, 0)[:6])
        self.assertEqual(again(server, hello(1, 0)), welcome(1, 0))

    def test_lost_forgets_the_commands(self):
        server = greeted()
        server.receive(CLOSE * 20)
        self.assertEqual(again(server, hello(1, 0), CLOSE, sync(1, 0)),
                         welcome(1, 0) + CLOSED + ready(1, "none"))

    def test_lost_forgets_what_is_to_be_sent(self):
        server = greeted()
        server.receive(sync(1, 0))
        self.assertEqual(server.take(3), ready(1, "none")[:3])
        self.assertEqual(server.waiting, 5)
        server.lost()
        self.assertEqual(server.waiting, 0)
        server.accept()
        self.assertEqual(take_all(server), [])
        server.receive(hello(1, 1))
        self.assertEqual(take_all(server), welcome(1, 1))


class Hello(Checks):
    def test_the_first_session(self):
        for received in (0, 1, 50, 51, 4294967295):
            server = Server()
            server.accept()
            self.assertIsNone(server.receive(hello(0, received)))
            self.assertEqual((server.phase, server.reason), ("open", None))
            self.assert_numbers(server, 1, 0, 0)
            self.assertEqual(server.waiting, 11)
            self.assertEqual(take_all(server), welcome(1, 0))

    def test_a_session_that_is_not_there(self):
        for session in (1, 2, 4294967295):
            for received in (0, 1):
                server = Server()
                server.accept()
                server.receive(hello(session, received))
                self.assert_refused(server, "session")
                self.assert_numbers(server, 0, 0, 0)

    def test_another_session(self):
        for session in (1, 3, 258, 4294967295):
            server = greeted()
            again(server, hello(0, 0))
            server.lost()
            server.accept()
            server.receive(hello(session, 0))
            self.assert_refused(server, "session")
            self.assert_numbers(server, 2, 0, 0)

    def test_a_new_session(self):
        server = greeted()
        for session in (2, 3, 4):
            server.receive(sync(1, 0))
            server.receive(sync(2, 1))
            self.assert_numbers(server, session - 1, 2, 1)
            self.assertEqual(again(server, hello(0, 7)), welcome(session, 0))
            self.assert_numbers(server, session, 0, 0)

    def test_the_store_of_a_new_session_is_the_base(self):
        server = greeted()
        server.receive(batch_bytes("create t", 1, 0) + batch_bytes("begin", 2, 1)
                       + batch_bytes("put t 1 2", 3, 2) + batch_bytes("create u", 4, 3))
        self.assertEqual(server.tables(), [("t", [])])
        again(server, hello(0, 0), batch_bytes("scan t", 1, 0), batch_bytes("put t 3 'x'", 2, 1))
        self.assertEqual(server.tables(), [("t", [(3, "x")])])
        found = again(server, hello(0, 0), batch_bytes("scan t", 1, 0),
                      batch_bytes("get u 1", 2, 1))
        self.assertEqual(found, welcome(3, 0) + ran(1, ("rows", [(3, "x")], False))
                         + ran(2, ("wrong", "no table")))

    def test_a_new_session_has_no_transaction_no_statements_and_no_portals(self):
        server = greeted()
        server.receive(batch_bytes("begin", 1, 0))
        server.receive(commands_bytes([("prepare", "s", "begin"), ("bind", "p", "s", ())]))
        server.receive(sync(2, 1))
        self.assertEqual(again(server, hello(0, 0), sync(1, 0)), welcome(2, 0) + ready(1, "none"))
        server.receive(commands_bytes([("prepare", "s", "begin"), ("bind", "p", "s", ()),
                                       ("run", "p", 0)]) + sync(2, 1))
        self.assertEqual(take_all(server), outcome_bytes(2, "open", ("prepared", 0), ("bound",),
                                                         ("complete", 0)))

    def test_the_same_session(self):
        server = with_batches(3)
        outcomes = [ready(1, "none"), ready(2, "none"), ready(3, "none")]
        for received in range(4):
            self.assertEqual(again(server, hello(1, received)),
                             sum(outcomes[received:], welcome(1, 3)))
            self.assertEqual((server.phase, server.reason), ("open", None))
            self.assert_numbers(server, 1, 3, received)

    def test_known_itself(self):
        server = with_batches(5, known=3)
        self.assert_numbers(server, 1, 5, 3)
        self.assertEqual(again(server, hello(1, 3)),
                         welcome(1, 5) + ready(4, "none") + ready(5, "none"))
        self.assert_numbers(server, 1, 5, 3)

    def test_done_itself(self):
        server = with_batches(5, known=3)
        self.assertEqual(again(server, hello(1, 5)), welcome(1, 5))
        self.assert_numbers(server, 1, 5, 5)

    def test_fewer_outcomes_than_known_and_more_than_done(self):
        for received in (0, 1, 2, 6, 7, 4294967295):
            server = with_batches(5, known=3)
            server.lost()
            server.accept()
            server.receive(hello(1, received))
            self.assert_refused(server, "session")
            self.assert_numbers(server, 1, 5, 3)

    def test_the_same_session_goes_on(self):
        """Statements and, in a transaction, portals stay."""
        server = greeted()
        server.receive(batch_bytes("create t", 1, 0) + batch_bytes("begin", 2, 1))
        server.receive(commands_bytes([("prepare", "s", "put t 1 2"), ("bind", "p", "s", ())]))
        server.receive(sync(3, 2))
        take_all(server)
        found = again(server, hello(1, 3), commands_bytes([("run", "p", 0)]) + sync(4, 3))
        self.assertEqual(found, welcome(1, 3) + outcome_bytes(4, "open", ("complete", 1)))

    def test_outcomes_are_sent_again_as_they_were(self):
        server = greeted()
        server.receive(batch_bytes("create t", 1, 0) + batch_bytes("put t 1 'one'", 2, 0)
                       + batch_bytes("scan t", 3, 0) + batch_bytes("drop t", 4, 0)
                       + batch_bytes("scan t", 5, 0))
        sent = [ran(1, ("complete", 0)), ran(2, ("complete", 1)),
                ran(3, ("rows", [(1, "one")], False)), ran(4, ("complete", 1)),
                ran(5, ("wrong", "no table"))]
        self.assertEqual(take_all(server), sum(sent, []))
        for received in (0, 0, 2, 2, 4, 5):
            self.assertEqual(again(server, hello(1, received)),
                             sum(sent[received:], welcome(1, 5)))

    def test_after_it_was_ended(self):
        server = greeted()
        server.receive(sync(1, 0) + sync(7, 0))
        self.assertEqual(again(server, hello(1, 0)), welcome(1, 1) + ready(1, "none"))
        self.assertEqual((server.phase, server.reason), ("open", None))


class Batches(Checks):
    def test_nothing_happens_before_sync(self):
        server = greeted()
        data = batch_bytes("create t", 1, 0)
        server.receive(data[:-1])
        self.assertEqual((server.phase, server.waiting, server.done), ("open", 0, 0))
        self.assertEqual(server.tables(), [])
        server.receive(data[-1:])
        self.assertEqual(server.done, 1)
        self.assertEqual(server.tables(), [("t", [])])
        self.assertEqual(take_all(server), ran(1, ("complete", 0)))

    def test_an_empty_batch(self):
        server = greeted()
        server.receive(sync(1, 0))
        self.assertEqual(take_all(server), ready(1, "none"))
        self.assert_numbers(server, 1, 1, 0)

    def test_states(self):
        server = greeted()
        server.receive(batch_bytes("begin", 1, 0) + batch_bytes("begin", 2, 0) + sync(3, 0))
        self.assertEqual(take_all(server), ran(1, ("complete", 0), "open")
                         + ran(2, ("wrong", "in transaction"), "failed") + ready(3, "failed"))

    def test_all_that_is_behind_an_error_is_skipped(self):
        server = greeted()
        server.receive(commands_bytes([("forget", "a"), ("run", "p", 0), ("close", "p"),
                                       ("prepare", "a", "begin")]) + sync(1, 0))
        self.assertEqual(take_all(server), outcome_bytes(
            1, "none", ("closed",), ("wrong", "no portal"), ("skipped",), ("skipped",)))
        server.receive(commands_bytes([("prepare", "a", "get t $1")]) + sync(2, 1))
        self.assertEqual(take_all(server), outcome_bytes(2, "none", ("prepared", 1)))

    def test_the_next_batch_begins_empty(self):
        server = greeted()
        for batch in (1, 2, 3):
            server.receive(CLOSE * 20 + sync(batch, 0))
            self.assertEqual(take_all(server), CLOSED * 20 + ready(batch, "none"))

    def test_the_twentieth_and_the_twenty_first_command(self):
        server = greeted()
        server.receive(CLOSE * 20)
        self.assertEqual((server.phase, server.waiting), ("open", 0))
        server.receive(CLOSE)
        self.assert_refused(server, "toolong")
        self.assert_numbers(server, 1, 0, 0)

    def test_toolong_forgets_the_commands(self):
        server = greeted()
        server.receive(batch_bytes("create t", 1, 0)[:-11] + CLOSE * 16)
        self.assertEqual((server.phase, server.reason), ("ended", "toolong"))
        self.assertEqual(again(server, hello(1, 0), sync(1, 0)), welcome(1, 0) + ready(1, "none"))
        self.assertEqual(server.tables(), [])

    def test_the_fiftieth_and_the_fifty_first_batch(self):
        server = with_batches(49)
        server.receive(sync(50, 0))
        self.assertEqual(take_all(server), ready(50, "none"))
        self.assert_numbers(server, 1, 50, 0)
        server.receive(sync(51, 50))
        self.assert_refused(server, "notnext")
        self.assert_numbers(server, 1, 50, 0)

    def test_fifty_batches_more_in_a_new_session(self):
        server = with_batches(50)
        again(server, hello(0, 0), *[sync(batch, batch - 1) for batch in range(1, 51)])
        self.assert_numbers(server, 2, 50, 49)
        self.assertEqual(server.phase, "open")

    def test_another_number(self):
        for batch in (0, 1, 2, 3, 5, 6, 50, 51, 256 + 4, 65536 + 4, 4294967295):
            server = with_batches(3)
            server.receive(CLOSE + sync(batch, 0))
            self.assert_refused(server, "notnext")
            self.assert_numbers(server, 1, 3, 0)

    def test_numbers_of_outcomes(self):
        for received in (2, 3, 4, 5):
            server = with_batches(5, known=2)
            server.receive(sync(6, received))
            self.assertEqual(take_all(server), ready(6, "none"))
            self.assert_numbers(server, 1, 6, received)

    def test_other_numbers_of_outcomes(self):
        for received in (0, 1, 6, 7, 4294967295):
            server = with_batches(5, known=2)
            server.receive(sync(6, received))
            self.assert_refused(server, "notnext")
            self.assert_numbers(server, 1, 5, 2)

    def test_known_by_hello_and_by_sync(self):
        server = with_batches(3)
        again(server, hello(1, 2), sync(4, 3))
        self.assert_numbers(server, 1, 4, 3)
        server.receive(sync(5, 2))
        self.assertEqual(server.reason, "notnext")

    def test_notnext_has_no_effect(self):
        server = greeted()
        server.receive(batch_bytes("create t", 2, 0))
        self.assert_refused(server, "notnext")
        self.assertEqual(server.tables(), [])
        self.assertEqual(again(server, hello(1, 0), sync(1, 0)), welcome(1, 0) + ready(1, "none"))


class Refusals(Checks):
    def test_other_messages_in_greeting(self):
        for data in (sync(1, 0), CLOSE, client_bytes(("prepare", "a", "begin")),
                     client_bytes(("run", "a", 1)), client_bytes(("forget", "a")),
                     client_bytes(("bind", "a", "b", ()))):
            server = Server()
            server.accept()
            server.receive(data)
            self.assert_refused(server, "message")
            self.assert_numbers(server, 0, 0, 0)

    def test_hello_in_open(self):
        for data in (hello(0, 0), hello(1, 0), hello(2, 0)):
            server = greeted()
            server.receive(CLOSE + data)
            self.assert_refused(server, "message")
            self.assert_numbers(server, 1, 0, 0)

    def test_no_messages(self):
        for data in NO_MESSAGES:
            server = Server()
            server.accept()
            server.receive(data)
            self.assert_refused(server, "bytes")
            server = greeted()
            server.receive(data)
            self.assert_refused(server, "bytes")

    def test_no_message_behind_messages(self):
        server = Server()
        server.accept()
        server.receive(hello(0, 0) + sync(1, 0) + CLOSE + [99, 0, 0] + sync(2, 0))
        self.assertEqual(take_all(server), welcome(1, 0) + ready(1, "none") + refused("bytes"))
        self.assertEqual((server.phase, server.reason, server.done), ("ended", "bytes", 1))

    def test_bytes_behind_the_end_are_ignored(self):
        for end, reason in ((sync(9, 0), "notnext"), (hello(0, 0), "message"),
                            (CLOSE * 21, "toolong")):
            for more in ([99, 0, 0], sync(2, 0), CLOSE, hello(1, 0), [1], [6, 255, 255]):
                server = greeted()
                server.receive(sync(1, 0) + end + more)
                self.assertEqual(take_all(server), ready(1, "none") + refused(reason))
                self.assertEqual((server.phase, server.reason), ("ended", reason))
                self.assert_numbers(server, 1, 1, 0)
        server = Server()
        server.accept()
        server.receive(hello(5, 0) + [99, 0, 0] + hello(0, 0))
        self.assert_refused(server, "session")

    def test_what_was_to_be_sent_stays(self):
        server = greeted()
        server.receive(sync(1, 0))
        self.assertEqual(server.take(2), ready(1, "none")[:2])
        server.receive(sync(1, 0))
        self.assertEqual(server.waiting, 6 + 11)
        self.assertEqual(server.take(7), ready(1, "none")[2:] + [2])
        self.assertEqual(server.take(99), refused("notnext")[1:])
        self.assertEqual((server.waiting, server.phase), (0, "ended"))

    def test_a_refusal_forgets_the_commands(self):
        for bad in ([99, 0, 0], hello(0, 0), sync(5, 0)):
            server = greeted()
            server.receive(CLOSE + bad)
            self.assertEqual(again(server, hello(1, 0), sync(1, 0)),
                             welcome(1, 0) + ready(1, "none"))


class Pieces(Checks):
    SCRIPTS = (
        hello(0, 0) + batch_bytes("create t", 1, 0) + batch_bytes("scan t", 2, 1) + sync(3, 0),
        hello(0, 0) + batch_bytes("begin", 1, 0) + CLOSE * 21 + sync(2, 0),
        hello(0, 0) + sync(1, 0) + packed(4, [1, 97], [4, 0]) + sync(2, 0),
        hello(3, 1) + hello(0, 0),
    )

    def test_each_size(self):
        for script in self.SCRIPTS:
            whole = Server()
            whole.accept()
            whole.receive(script)
            data = take_all(whole)
            for size in (1, 2, 3, 5, 11, 40, len(script)):
                server = Server()
                server.accept()
                for part in pieces(script, size):
                    server.receive(part)
                    server.receive([])
                self.assertEqual((server.phase, server.reason), (whole.phase, whole.reason))
                self.assertEqual(server.tables(), whole.tables())
                self.assertEqual(take_all(server), data)

    def test_take(self):
        server = greeted()
        server.receive(batch_bytes("create t", 1, 0))
        data = ran(1, ("complete", 0))
        self.assertEqual(server.take(0), [])
        self.assertEqual(server.waiting, len(data))
        found = []
        for most in (1, 0, 2, 3, 1, 5):
            part = server.take(most)
            self.assertIs(type(part), list)
            self.assertEqual(len(part), most)
            found += part
            self.assertEqual(server.waiting, len(data) - len(found))
        found += server.take(10 ** 9)
        self.assertEqual(found, data)
        self.assertEqual((server.waiting, server.take(1), server.take(0)), (0, [], []))

    def test_what_is_taken_while_more_is_sent(self):
        server = greeted()
        found = []
        for batch in range(1, 31):
            server.receive(sync(batch, 0))
            found += server.take(5 if batch < 20 else 11)
        found += server.take(1000)
        self.assertEqual(found, [byte for batch in range(1, 31) for byte in ready(batch, "none")])

    def test_nothing_is_shared(self):
        server = greeted()
        data = batch_bytes("create t", 1, 0)
        copy = list(data)
        server.receive(data)
        self.assertEqual(data, copy)
        data.clear()
        tables = server.tables()
        tables[0][1].append(1)
        tables.clear()
        self.assertEqual(server.tables(), [("t", [])])
        part = server.take(4)
        kept = list(part)
        tables = server.tables()
        server.receive(tuple(batch_bytes("put t 1 1", 2, 0)))
        self.assertEqual((part, tables), (kept, [("t", [])]))
        part.clear()
        self.assertEqual(server.tables(), [("t", [(1, 1)])])
        self.assertEqual(take_all(server), (ran(1, ("complete", 0)) + ran(2, ("complete", 1)))[4:])

    def test_a_part_that_is_changed_afterwards(self):
        server = greeted()
        data = sync(1, 0)[:9]
        server.receive(data)
        data[6] = 9
        server.receive(sync(1, 0)[9:])
        self.assertEqual(take_all(server), ready(1, "none"))


class Tables(Checks):
    def test_they_are_those_of_the_base(self):
        server = greeted()
        server.receive(batch_bytes("create t", 1, 0) + batch_bytes("begin", 2, 0)
                       + batch_bytes("put t 1 1", 3, 0))
        self.assertEqual(server.tables(), [("t", [])])
        server.receive(batch_bytes("commit", 4, 0))
        self.assertEqual(server.tables(), [("t", [(1, 1)])])

    def test_they_stay_without_a_connection(self):
        server = greeted()
        server.receive(batch_bytes("create t", 1, 0))
        server.lost()
        self.assertEqual(server.tables(), [("t", [])])
        server.accept()
        self.assertEqual(server.tables(), [("t", [])])
        server.receive([99, 0, 0])
        self.assertEqual(server.tables(), [("t", [])])


if __name__ == "__main__":
    unittest.main()
