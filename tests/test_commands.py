"""Points 6 and 8: commands, their replies, their errors in order, and batches."""

import unittest

from batchends.sessions import Session
from tests.helpers import in_transaction, numbered, only, tell

EIGHT = ("a", "b", "c", "d", "e", "f", "g", "h")


def prepared(*strings):
    """A session in a transaction with these statements prepared under a, b, .."""
    session = in_transaction([("t", numbered(3))])
    only(session, "forget", "stm")
    only(session, "close", "ptl")
    for name, string in zip(EIGHT, strings):
        assert only(session, "prepare", name, string)[0] == "prepared"
    return session


class Prepare(unittest.TestCase):
    def test_how_many_parameters(self):
        session = Session()
        self.assertEqual(only(session, "prepare", "a", "begin"), ("prepared", 0))
        self.assertEqual(only(session, "prepare", "b", "get t $1"), ("prepared", 1))
        self.assertEqual(only(session, "prepare", "c", "put t $2 $1"), ("prepared", 2))
        self.assertEqual(only(session, "prepare", "d", "put t $1 $1"), ("prepared", 1))

    def test_taken(self):
        session = Session()
        only(session, "prepare", "a", "begin")
        self.assertEqual(only(session, "prepare", "a", "begin"), ("wrong", "taken"))
        self.assertEqual(only(session, "prepare", "a", "commit"), ("wrong", "taken"))

    def test_what_is_taken_stays(self):
        session = Session()
        only(session, "prepare", "a", "create t")
        only(session, "prepare", "a", "create u")
        session.run_batch([("bind", "p", "a", ()), ("run", "p", 0)])
        self.assertEqual(session.tables(), [("t", [])])

    def test_the_ninth(self):
        session = Session()
        for name in EIGHT:
            self.assertEqual(only(session, "prepare", name, "begin"), ("prepared", 0))
        self.assertEqual(only(session, "prepare", "i", "begin"), ("wrong", "crowded"))
        only(session, "forget", "c")
        self.assertEqual(only(session, "prepare", "i", "begin"), ("prepared", 0))
        self.assertEqual(only(session, "prepare", "c", "begin"), ("wrong", "crowded"))

    def test_unreadable(self):
        session = Session()
        for string in ("", "begin ", "get t $2", "get t 'a", "x" * 201, None, 7, ["begin"]):
            with self.subTest(repr(string)):
                self.assertEqual(only(session, "prepare", "a", string), ("wrong", "unreadable"))
        self.assertEqual(only(session, "prepare", "a", "begin"), ("prepared", 0))

    def test_the_order_of_errors(self):
        session = Session()
        for name in EIGHT:
            only(session, "prepare", name, "begin")
        self.assertEqual(only(session, "prepare", "a", "no statement"), ("wrong", "taken"))
        self.assertEqual(only(session, "prepare", "i", "no statement"), ("wrong", "crowded"))
        only(session, "forget", "h")
        self.assertEqual(only(session, "prepare", "a", "no statement"), ("wrong", "taken"))

    def test_it_stays_behind_batches_and_errors(self):
        session = Session()
        session.run_batch([("prepare", "a", "get t $1"), ("run", "nothing", 0)])
        session.run_batch([])
        self.assertEqual(only(session, "prepare", "a", "begin"), ("wrong", "taken"))
        self.assertEqual(only(session, "bind", "p", "a", (1,)), ("bound",))

    def test_it_does_not_look_at_the_store(self):
        self.assertEqual(only(Session(), "prepare", "a", "put t 1 2"), ("prepared", 0))


class Bind(unittest.TestCase):
    def test_it_makes_a_portal(self):
        session = prepared("get t $1")
        self.assertEqual(only(session, "bind", "p", "a", (2,)), ("bound",))
        self.assertEqual(only(session, "run", "p", 0), ("rows", [(2, 20)], False))

    def test_several_of_one_statement(self):
        session = prepared("get t $1")
        for n in (1, 2, 3):
            self.assertEqual(only(session, "bind", EIGHT[n], "a", (n,)), ("bound",))
        for n in (3, 1, 2):
            self.assertEqual(only(session, "run", EIGHT[n], 0), ("rows", [(n, 10 * n)], False))

    def test_taken(self):
        session = prepared("get t $1")
        only(session, "bind", "p", "a", (2,))
        self.assertEqual(only(session, "bind", "p", "a", (1,)), ("wrong", "taken"))
        self.assertEqual(only(session, "bind", "p", "x", ()), ("wrong", "taken"))

    def test_the_ninth(self):
        session = prepared("scan t")
        for name in EIGHT:
            self.assertEqual(only(session, "bind", name, "a", ()), ("bound",))
        self.assertEqual(only(session, "bind", "i", "a", ()), ("wrong", "crowded"))
        only(session, "close", "e")
        self.assertEqual(only(session, "bind", "i", "a", ()), ("bound",))

    def test_portals_at_their_end_count(self):
        session = prepared("scan t")
        for name in EIGHT:
            session.run_batch([("bind", name, "a", ()), ("run", name, 0)])
        self.assertEqual(only(session, "bind", "i", "a", ()), ("wrong", "crowded"))

    def test_no_statement(self):
        session = prepared("scan t")
        self.assertEqual(only(session, "bind", "p", "b", ()), ("wrong", "no statement"))
        only(session, "forget", "a")
        self.assertEqual(only(session, "bind", "p", "a", ()), ("wrong", "no statement"))

    def test_values(self):
        for string, many in (("scan t", 0), ("get t $1", 1), ("put t $1 $1", 1),
                             ("put t $2 $1", 2)):
            for given in range(5):
                with self.subTest(string, given=given):
                    reply = ("bound",) if given == many else ("wrong", "values")
                    session = prepared(string)
                    self.assertEqual(only(session, "bind", "p", "a", (1, "x", 2, "")[:given]),
                                     reply)

    def test_wrong_values_make_no_portal(self):
        session = prepared("get t $1")
        only(session, "bind", "p", "a", ())
        self.assertEqual(only(session, "bind", "p", "a", (1,)), ("bound",))

    def test_the_order_of_errors(self):
        session = prepared("get t $1")
        for name in EIGHT:
            only(session, "bind", name, "a", (1,))
        self.assertEqual(only(session, "bind", "a", "x", ()), ("wrong", "taken"))
        self.assertEqual(only(session, "bind", "i", "x", ()), ("wrong", "crowded"))
        self.assertEqual(only(session, "bind", "i", "a", ()), ("wrong", "crowded"))
        only(session, "close", "h")
        self.assertEqual(only(session, "bind", "a", "a", ()), ("wrong", "taken"))
        self.assertEqual(only(session, "bind", "h", "x", (1, 2)), ("wrong", "no statement"))
        self.assertEqual(only(session, "bind", "h", "a", (1, 2)), ("wrong", "values"))

    def test_one_name_for_a_statement_and_a_portal(self):
        session = prepared("get t 1", "scan t")
        self.assertEqual(only(session, "bind", "a", "b", ()), ("bound",))
        self.assertEqual(only(session, "bind", "b", "a", ()), ("bound",))
        self.assertEqual(only(session, "run", "a", 0), ("rows", numbered(3), False))
        self.assertEqual(only(session, "run", "b", 0), ("rows", [(1, 10)], False))
        only(session, "forget", "a")
        self.assertEqual(only(session, "run", "a", 0), ("wrong", "at end"))
        self.assertEqual(only(session, "prepare", "a", "scan t"), ("prepared", 0))
        only(session, "close", "a")
        self.assertEqual(only(session, "prepare", "a", "scan t"), ("wrong", "taken"))


class ForgetAndClose(unittest.TestCase):
    def test_forget(self):
        session = prepared("scan t")
        self.assertEqual(only(session, "forget", "a"), ("closed",))
        self.assertEqual(only(session, "prepare", "a", "get t 1"), ("prepared", 0))

    def test_what_is_not_there(self):
        session = Session()
        self.assertEqual(only(session, "forget", "a"), ("closed",))
        self.assertEqual(only(session, "close", "a"), ("closed",))
        self.assertEqual(session.run_batch([("forget", "a"), ("close", "a"), ("forget", "a")]),
                         ("none", [("closed",), ("closed",), ("closed",)]))

    def test_forget_leaves_other_statements(self):
        session = prepared("scan t", "get t 1")
        only(session, "forget", "a")
        self.assertEqual(only(session, "bind", "p", "b", ()), ("bound",))

    def test_forget_leaves_portals(self):
        session = prepared("get t $1")
        only(session, "bind", "p", "a", (3,))
        only(session, "forget", "a")
        self.assertEqual(only(session, "run", "p", 0), ("rows", [(3, 30)], False))

    def test_a_portal_keeps_its_statement(self):
        session = prepared("get t $1")
        only(session, "bind", "p", "a", (3,))
        only(session, "forget", "a")
        only(session, "prepare", "a", "delete t $1")
        self.assertEqual(only(session, "run", "p", 0), ("rows", [(3, 30)], False))

    def test_close(self):
        session = prepared("scan t")
        only(session, "bind", "p", "a", ())
        only(session, "bind", "q", "a", ())
        self.assertEqual(only(session, "close", "p"), ("closed",))
        self.assertEqual(only(session, "run", "q", 0), ("rows", numbered(3), False))
        self.assertEqual(only(session, "bind", "p", "a", ()), ("bound",))
        only(session, "close", "p")
        self.assertEqual(only(session, "run", "p", 0), ("wrong", "no portal"))

    def test_in_a_failed_transaction(self):
        session = prepared("scan t")
        only(session, "bind", "p", "a", ())
        only(session, "run", "nothing", 0)
        for command, reply in ((("prepare", "b", "get t $1"), ("prepared", 1)),
                               (("bind", "q", "b", (1,)), ("bound",)),
                               (("forget", "b"), ("closed",)), (("close", "p"), ("closed",))):
            with self.subTest(command):
                self.assertEqual(session.run_batch([command]), ("failed", [reply]))


class Batches(unittest.TestCase):
    def test_an_empty_one(self):
        self.assertEqual(Session().run_batch([]), ("none", []))
        self.assertEqual(Session().run_batch(()), ("none", []))

    def test_the_outcome(self):
        outcome = Session().run_batch([("prepare", "s", "create t"), ("bind", "p", "s", ()),
                                       ("run", "p", 0)])
        self.assertEqual(outcome, ("none", [("prepared", 0), ("bound",), ("complete", 0)]))
        self.assertIs(type(outcome), tuple)
        self.assertIs(type(outcome[1]), list)

    def test_twenty_commands(self):
        commands = [("forget", "a")] * 19 + [("prepare", "a", "begin")]
        self.assertEqual(Session().run_batch(commands),
                         ("none", [("closed",)] * 19 + [("prepared", 0)]))

    def test_skipped(self):
        session = Session()
        outcome = session.run_batch([
            ("prepare", "a", "begin"), ("prepare", "b", "?"), ("prepare", "c", "begin"),
            ("prepare", "b", "?"), ("bind", "p", "a", ()), ("run", "nothing", 0),
            ("forget", "a"), ("close", "p"),
        ])
        self.assertEqual(outcome, ("none", [("prepared", 0), ("wrong", "unreadable")]
                                   + [("skipped",)] * 6))

    def test_skipped_commands_have_no_effect(self):
        session = in_transaction([("t", numbered(3))])
        session.run_batch([("prepare", "put", "put t 9 9"), ("prepare", "end", "rollback"),
                           ("bind", "p", "put", ()), ("bind", "q", "end", ())])
        state, replies = session.run_batch([
            ("run", "nothing", 0), ("run", "p", 0), ("run", "q", 0), ("close", "p"),
            ("forget", "put"), ("prepare", "new", "scan t"), ("bind", "new", "end", ()),
        ])
        self.assertEqual((state, replies), ("failed", [("wrong", "no portal")]
                                            + [("skipped",)] * 6))
        self.assertEqual(session.tables(), [("t", numbered(3))])
        self.assertEqual(only(session, "bind", "new", "put", ()), ("bound",))
        self.assertEqual(only(session, "prepare", "new", "scan t"), ("prepared", 0))
        self.assertEqual(only(session, "bind", "p", "put", ()), ("wrong", "taken"))

    def test_the_next_batch_is_not_skipped(self):
        session = Session()
        session.run_batch([("run", "nothing", 0), ("forget", "a")])
        self.assertEqual(session.run_batch([("forget", "a")]), ("none", [("closed",)]))

    def test_each_error_ends_a_batch(self):
        for command, reason in ((("prepare", "stm", "begin"), "taken"),
                                (("prepare", "x", "?"), "unreadable"),
                                (("bind", "ptl", "stm", ()), "taken"),
                                (("bind", "x", "x", ()), "no statement"),
                                (("bind", "x", "stm", (1,)), "values"),
                                (("run", "x", 0), "no portal"), (("run", "ptl", 0), "at end")):
            with self.subTest(command):
                outcome = in_transaction().run_batch([command, ("forget", "stm")])
                self.assertEqual(outcome, ("failed", [("wrong", reason), ("skipped",)]))

    def test_statements_behind_an_error_do_not_run(self):
        session = Session()
        tell(session, "create t")
        session.run_batch([("prepare", "x", "?"), ("run", "ptl", 0)])
        self.assertEqual(session.tables(), [("t", [])])


if __name__ == "__main__":
    unittest.main()
