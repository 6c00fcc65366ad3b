"""Points 9, 10 and 11: the base, transactions, savepoints, and outcomes."""

import unittest

from batchends.sessions import Session
from tests.helpers import commands_of, in_transaction, numbered, only, state_of, tell, tell_all

DONE = ("complete", 0)


def fail(session):
    """Makes the transaction fail."""
    assert session.run_batch([("run", "nothing", 0)]) == ("failed", [("wrong", "no portal")])


def with_portal(session, statement="scan t"):
    """Adds a portal p of the statement to a session in a transaction."""
    replies = session.run_batch([("prepare", "s", statement), ("bind", "p", "s", ())])[1]
    assert replies == [("prepared", 0), ("bound",)]
    return session


class WithoutTransaction(unittest.TestCase):
    def test_the_base_at_the_end_of_a_batch(self):
        session = Session([("t", [])])
        self.assertEqual(tell_all(session, "put t 1 1", "put t 2 2"),
                         ("none", [("complete", 1), ("complete", 1)]))
        self.assertEqual(session.base(), [("t", [(1, 1), (2, 2)])])
        self.assertEqual(session.tables(), session.base())

    def test_an_error_goes_back_to_the_base(self):
        session = Session([("t", numbered(2))])
        state, replies = tell_all(session, "put t 3 30", "create u", "get v 1")
        self.assertEqual((state, replies), ("none", [("complete", 1), DONE, ("wrong", "no table")]))
        self.assertEqual(session.tables(), [("t", numbered(2))])
        self.assertEqual(session.base(), [("t", numbered(2))])

    def test_only_to_the_batch_before(self):
        session = Session()
        tell(session, "create t")
        tell_all(session, "put t 1 1", "create t")
        self.assertEqual(session.tables(), [("t", [])])

    def test_an_error_of_any_command_goes_back(self):
        for command in (("prepare", "stm", "begin"), ("prepare", "x", "?"),
                        ("bind", "ptl", "stm", ()), ("bind", "x", "x", ()),
                        ("bind", "x", "stm", (1,)), ("run", "x", 0), ("run", "ptl", 0)):
            with self.subTest(command):
                session = Session()
                state, replies = session.run_batch(commands_of("create t") + [command])
                self.assertEqual((state, replies[5][0]), ("none", "wrong"))
                self.assertEqual(session.tables(), [])

    def test_prepared_statements_stay(self):
        session = Session()
        session.run_batch([("prepare", "a", "get t $1"), ("prepare", "b", "?")])
        self.assertEqual(only(session, "bind", "p", "a", (1,)), ("bound",))

    def test_portals_are_removed_at_the_end_of_a_batch(self):
        session = Session([("t", numbered(3))])
        replies = session.run_batch([("prepare", "s", "scan t"), ("bind", "p", "s", ()),
                                     ("bind", "q", "s", ()), ("run", "p", 1)])[1]
        self.assertEqual(replies[3], ("rows", [(1, 10)], True))
        self.assertEqual(only(session, "run", "p", 1), ("wrong", "no portal"))
        self.assertEqual(only(session, "run", "q", 1), ("wrong", "no portal"))

    def test_portals_are_removed_at_an_error(self):
        session = Session([("t", [])])
        session.run_batch([("prepare", "s", "scan t"), ("bind", "p", "s", ()), ("run", "x", 0)])
        self.assertEqual(session.run_batch([("bind", "p", "s", ()), ("run", "p", 0)]),
                         ("none", [("bound",), ("rows", [], False)]))


class Begin(unittest.TestCase):
    def test_it_opens_a_transaction(self):
        session = Session()
        self.assertEqual(tell_all(session, "begin"), ("open", [DONE]))
        self.assertEqual(session.run_batch([]), ("open", []))

    def test_in_transaction(self):
        session = in_transaction()
        self.assertEqual(tell(session, "begin"), ("wrong", "in transaction"))
        self.assertEqual(state_of(session), "failed")
        self.assertEqual(tell(session, "begin"), ("wrong", "failed"))

    def test_the_base_stays(self):
        session = in_transaction([("t", [])])
        tell(session, "put t 1 1")
        self.assertEqual(session.tables(), [("t", [(1, 1)])])
        self.assertEqual(session.base(), [("t", [])])

    def test_changes_of_the_batch_before_it_belong_to_the_transaction(self):
        session = Session([("t", [])])
        self.assertEqual(tell_all(session, "put t 1 1", "begin", "put t 2 2")[0], "open")
        self.assertEqual(session.tables(), [("t", [(1, 1), (2, 2)])])
        self.assertEqual(session.base(), [("t", [])])
        tell(session, "rollback")
        self.assertEqual(session.tables(), [("t", [])])

    def test_they_stay_at_an_error_in_the_transaction(self):
        session = Session([("t", [])])
        self.assertEqual(tell_all(session, "put t 1 1", "begin", "create t")[0], "failed")
        self.assertEqual(session.tables(), [("t", [(1, 1)])])
        self.assertEqual(tell(session, "commit"), ("wrong", "rolled back"))
        self.assertEqual(session.tables(), [("t", [])])

    def test_portals_stay(self):
        session = Session([("t", [])])
        outcome = session.run_batch([
            ("prepare", "a", "scan t"), ("prepare", "b", "begin"), ("bind", "p", "a", ()),
            ("bind", "q", "b", ()), ("run", "q", 0), ("run", "p", 0)])
        self.assertEqual(outcome[1][4:], [DONE, ("rows", [], False)])
        self.assertEqual(only(session, "run", "q", 0), ("wrong", "at end"))


class Open(unittest.TestCase):
    def test_all_stays_at_the_end_of_a_batch(self):
        session = with_portal(in_transaction([("t", numbered(3))]))
        self.assertEqual(session.run_batch([]), ("open", []))
        self.assertEqual(session.run_batch([("run", "p", 1)]),
                         ("open", [("rows", [(1, 10)], True)]))
        self.assertEqual(only(session, "run", "p", 1), ("rows", [(2, 20)], True))

    def test_an_error_fails_and_keeps_store_and_portals(self):
        session = with_portal(in_transaction([("t", [])]), "undo n")
        tell_all(session, "put t 1 1", "save n", "put t 2 2")
        fail(session)
        self.assertEqual(session.tables(), [("t", [(1, 1), (2, 2)])])
        self.assertEqual(session.base(), [("t", [])])
        self.assertEqual(only(session, "run", "p", 0), DONE)
        self.assertEqual(session.tables(), [("t", [(1, 1)])])

    def test_the_portal_that_gave_the_error_stays(self):
        session = with_portal(in_transaction(), "scan t")
        self.assertEqual(only(session, "run", "p", 0), ("wrong", "no table"))
        self.assertEqual(only(session, "bind", "p", "s", ()), ("wrong", "taken"))

    def test_further_errors_change_nothing(self):
        session = with_portal(in_transaction([("t", [])]), "put t 1 1")
        fail(session)
        for _ in range(3):
            self.assertEqual(session.run_batch([("run", "p", 0), ("close", "p")]),
                             ("failed", [("wrong", "failed"), ("skipped",)]))
        self.assertEqual(session.tables(), [("t", [])])
        self.assertEqual(only(session, "bind", "p", "s", ()), ("wrong", "taken"))


class Commit(unittest.TestCase):
    def test_in_an_open_transaction(self):
        session = in_transaction([("t", [])])
        tell(session, "put t 1 1")
        self.assertEqual(tell_all(session, "commit"), ("none", [DONE]))
        self.assertEqual(session.tables(), [("t", [(1, 1)])])
        self.assertEqual(session.base(), [("t", [(1, 1)])])

    def test_it_sets_the_base_at_once(self):
        session = in_transaction([("t", [])])
        state, replies = tell_all(session, "put t 1 1", "commit", "put t 2 2", "create t")
        self.assertEqual((state, replies[3]), ("none", ("wrong", "exists")))
        self.assertEqual(session.tables(), [("t", [(1, 1)])])

    def test_no_transaction(self):
        session = Session([("t", [])])
        self.assertEqual(tell_all(session, "put t 1 1", "commit"),
                         ("none", [("complete", 1), ("wrong", "no transaction")]))
        self.assertEqual(session.tables(), [("t", [])])
        session = in_transaction()
        self.assertEqual(tell_all(session, "commit", "commit")[1],
                         [DONE, ("wrong", "no transaction")])

    def test_in_a_failed_transaction(self):
        session = in_transaction([("t", [])])
        tell(session, "put t 1 1")
        fail(session)
        state, replies = session.run_batch(commands_of("commit") + [("forget", "stm")])
        self.assertEqual((state, replies[4:]), ("none", [("wrong", "rolled back"), ("skipped",)]))
        self.assertEqual(session.tables(), [("t", [])])
        self.assertEqual(session.base(), [("t", [])])
        self.assertEqual(tell(session, "commit"), ("wrong", "no transaction"))

    def test_portals_are_removed(self):
        session = with_portal(in_transaction([("t", [])]))
        state, replies = session.run_batch(commands_of("commit") + [("run", "ptl", 0)])
        self.assertEqual((state, replies[4:]), ("none", [DONE, ("wrong", "no portal")]))
        session = with_portal(in_transaction([("t", [])]))
        replies = session.run_batch(commands_of("commit") + [("bind", "p", "s", ())])[1]
        self.assertEqual(replies[5], ("bound",))

    def test_savepoints_are_removed(self):
        for failed in (False, True):
            with self.subTest(failed=failed):
                session = in_transaction()
                tell(session, "save n")
                if failed:
                    fail(session)
                tell(session, "commit")
                tell(session, "begin")
                self.assertEqual(tell(session, "undo n"), ("wrong", "no savepoint"))

    def test_portals_are_removed_when_rolled_back(self):
        session = with_portal(in_transaction([("t", [])]))
        fail(session)
        tell(session, "commit")
        tell(session, "begin")
        self.assertEqual(only(session, "run", "p", 0), ("wrong", "no portal"))

    def test_a_new_transaction_in_the_same_batch(self):
        session = in_transaction([("t", [])])
        self.assertEqual(tell_all(session, "put t 1 1", "commit", "begin", "put t 2 2")[0], "open")
        self.assertEqual(session.base(), [("t", [(1, 1)])])
        tell(session, "rollback")
        self.assertEqual(session.tables(), [("t", [(1, 1)])])


class Rollback(unittest.TestCase):
    def test_in_an_open_transaction(self):
        session = in_transaction([("t", [])])
        tell_all(session, "put t 1 1", "create u")
        self.assertEqual(tell_all(session, "rollback"), ("none", [DONE]))
        self.assertEqual(session.tables(), [("t", [])])
        self.assertEqual(session.base(), [("t", [])])

    def test_in_a_failed_transaction(self):
        session = in_transaction([("t", [])])
        tell(session, "put t 1 1")
        fail(session)
        self.assertEqual(tell_all(session, "rollback", "put t 2 2"),
                         ("none", [DONE, ("complete", 1)]))
        self.assertEqual(session.tables(), [("t", [(2, 2)])])

    def test_no_transaction(self):
        self.assertEqual(tell(Session(), "rollback"), ("wrong", "no transaction"))
        session = in_transaction()
        tell(session, "rollback")
        self.assertEqual(tell(session, "rollback"), ("wrong", "no transaction"))

    def test_portals_are_removed(self):
        for failed in (False, True):
            with self.subTest(failed=failed):
                session = with_portal(in_transaction([("t", [])]))
                if failed:
                    fail(session)
                replies = session.run_batch(commands_of("rollback") + [("bind", "p", "s", ()),
                                                                       ("run", "ptl", 0)])[1]
                self.assertEqual(replies[4:], [DONE, ("bound",), ("wrong", "no portal")])

    def test_savepoints_are_removed(self):
        for failed in (False, True):
            with self.subTest(failed=failed):
                session = in_transaction()
                tell(session, "save n")
                if failed:
                    fail(session)
                tell_all(session, "rollback", "begin")
                self.assertEqual(tell(session, "undo n"), ("wrong", "no savepoint"))

    def test_prepared_statements_stay(self):
        session = with_portal(in_transaction([("t", [])]))
        tell(session, "rollback")
        self.assertEqual(only(session, "bind", "p", "s", ()), ("bound",))

    def test_the_order_of_tables_comes_back(self):
        session = in_transaction([("b", []), ("a", [(1, 2)])])
        tell_all(session, "drop b", "create c", "create b")
        self.assertEqual(session.tables(), [("a", [(1, 2)]), ("c", []), ("b", [])])
        tell(session, "rollback")
        self.assertEqual(session.tables(), [("b", []), ("a", [(1, 2)])])


class Savepoints(unittest.TestCase):
    def saved(self):
        """A transaction with the savepoints a, b, a, at stores with 1, 2, 3 rows, and 4 rows."""
        session = in_transaction([("t", [])])
        for n, name in ((1, "a"), (2, "b"), (3, "a")):
            tell_all(session, f"put t {n} {10 * n}", f"save {name}")
        tell(session, "put t 4 40")
        return session

    def assert_rows(self, session, many):
        self.assertEqual(session.tables(), [("t", numbered(many))])

    def test_undo(self):
        session = self.saved()
        self.assertEqual(tell_all(session, "undo b"), ("open", [DONE]))
        self.assert_rows(session, 2)
        self.assertEqual(session.base(), [("t", [])])

    def test_the_last_one_of_its_name(self):
        session = self.saved()
        self.assertEqual(tell(session, "undo a"), DONE)
        self.assert_rows(session, 3)

    def test_it_stays(self):
        session = self.saved()
        for _ in range(3):
            self.assertEqual(tell(session, "undo a"), DONE)
            self.assert_rows(session, 3)
            tell(session, "put t 9 9")

    def test_later_ones_are_removed(self):
        session = self.saved()
        tell(session, "undo b")
        self.assertEqual(tell(session, "undo a"), DONE)
        self.assert_rows(session, 1)
        self.assertEqual(tell(session, "undo b"), ("wrong", "no savepoint"))

    def test_earlier_ones_stay(self):
        session = self.saved()
        tell(session, "undo a")
        self.assertEqual(tell(session, "undo b"), DONE)
        self.assert_rows(session, 2)

    def test_without_changes_before_it(self):
        session = in_transaction([("t", numbered(2))])
        tell_all(session, "save n", "drop t", "create u")
        tell(session, "undo n")
        self.assert_rows(session, 2)

    def test_in_a_failed_transaction(self):
        session = with_portal(self.saved())
        fail(session)
        self.assertEqual(tell_all(session, "undo b", "put t 3 30"),
                         ("open", [DONE, ("complete", 1)]))
        self.assert_rows(session, 3)
        tell(session, "commit")
        self.assertEqual(session.base(), [("t", numbered(3))])

    def test_portals_stay(self):
        session = with_portal(self.saved())
        tell(session, "undo b")
        self.assertEqual(only(session, "run", "p", 0), ("rows", numbered(2), False))

    def test_no_savepoint(self):
        session = self.saved()
        self.assertEqual(tell(session, "undo c"), ("wrong", "no savepoint"))
        self.assertEqual(state_of(session), "failed")
        self.assertEqual(tell(session, "undo c"), ("wrong", "no savepoint"))
        self.assertEqual(state_of(session), "failed")
        self.assert_rows(session, 4)
        self.assertEqual(tell(session, "undo a"), DONE)

    def test_no_transaction(self):
        self.assertEqual(tell(Session(), "save n"), ("wrong", "no transaction"))
        self.assertEqual(tell(Session(), "undo n"), ("wrong", "no transaction"))

    def test_a_failed_transaction_makes_none(self):
        session = in_transaction()
        fail(session)
        self.assertEqual(tell(session, "save n"), ("wrong", "failed"))
        self.assertEqual(tell(session, "undo n"), ("wrong", "no savepoint"))

    def test_the_eleventh(self):
        session = in_transaction([("t", [])])
        for n in range(10):
            self.assertEqual(tell(session, f"save {'nm'[n // 5]}"), DONE)
        self.assertEqual(tell(session, "save m"), ("wrong", "crowded"))
        self.assertEqual(state_of(session), "failed")
        self.assertEqual(tell(session, "undo n"), DONE)
        for _ in range(5):
            self.assertEqual(tell(session, "save m"), DONE)
        self.assertEqual(tell(session, "save m"), ("wrong", "crowded"))

    def test_a_savepoint_as_a_table_of_the_same_name(self):
        session = in_transaction([("t", [])])
        self.assertEqual(tell_all(session, "save t", "put t 1 1", "undo t"),
                         ("open", [DONE, ("complete", 1), DONE]))
        self.assert_rows(session, 0)


class Outcomes(unittest.TestCase):
    def test_none(self):
        self.assertEqual(tell_all(Session(), "create t")[0], "none")
        self.assertEqual(tell_all(Session(), "commit")[0], "none")
        self.assertEqual(tell_all(Session(), "begin", "commit")[0], "none")
        self.assertEqual(tell_all(Session(), "begin", "rollback")[0], "none")

    def test_open(self):
        self.assertEqual(tell_all(Session(), "begin", "create t")[0], "open")
        self.assertEqual(tell_all(Session(), "begin", "rollback", "begin")[0], "open")

    def test_failed(self):
        self.assertEqual(tell_all(Session(), "begin", "drop t")[0], "failed")
        session = in_transaction()
        fail(session)
        self.assertEqual(session.run_batch([]), ("failed", []))


if __name__ == "__main__":
    unittest.main()
