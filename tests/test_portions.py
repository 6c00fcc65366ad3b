"""Point 7: running portals, whole and in portions."""

import unittest

from batchends.sessions import Session
from tests.helpers import in_transaction, numbered, only, state_of, tell


def with_portal(statement, rows, values=()):
    """A session in a transaction with a table t, and a portal p of the statement."""
    session = in_transaction([("t", rows)])
    replies = session.run_batch([("prepare", "s", statement), ("bind", "p", "s", values)])[1]
    assert replies[1] == ("bound",)
    return session


class Portions(unittest.TestCase):
    def assert_runs(self, session, most, *replies):
        for reply in replies:
            found = only(session, "run", "p", most)
            self.assertEqual(found, reply)
            if found[0] == "rows":
                self.assertIs(type(found[1]), list)
                self.assertIs(type(found[2]), bool)

    def test_all(self):
        for most in (0, 3, 4, 1000):
            with self.subTest(most):
                self.assert_runs(with_portal("scan t", numbered(3)), most,
                                 ("rows", numbered(3), False), ("wrong", "at end"))

    def test_one_by_one(self):
        self.assert_runs(with_portal("scan t", numbered(3)), 1, ("rows", [(1, 10)], True),
                         ("rows", [(2, 20)], True), ("rows", [(3, 30)], False),
                         ("wrong", "at end"))

    def test_two_by_two(self):
        self.assert_runs(with_portal("scan t", numbered(5)), 2,
                         ("rows", [(1, 10), (2, 20)], True), ("rows", [(3, 30), (4, 40)], True),
                         ("rows", [(5, 50)], False), ("wrong", "at end"))
        self.assert_runs(with_portal("scan t", numbered(4)), 2,
                         ("rows", [(1, 10), (2, 20)], True), ("rows", [(3, 30), (4, 40)], False),
                         ("wrong", "at end"))

    def test_each_run_has_its_own_most(self):
        session = with_portal("scan t", numbered(20))
        self.assertEqual(only(session, "run", "p", 3), ("rows", numbered(20)[:3], True))
        self.assertEqual(only(session, "run", "p", 1), ("rows", numbered(20)[3:4], True))
        self.assertEqual(only(session, "run", "p", 15), ("rows", numbered(20)[4:19], True))
        self.assertEqual(only(session, "run", "p", 1000), ("rows", numbered(20)[19:], False))
        self.assertEqual(only(session, "run", "p", 0), ("wrong", "at end"))

    def test_the_rest(self):
        session = with_portal("scan t", numbered(5))
        only(session, "run", "p", 2)
        self.assertEqual(only(session, "run", "p", 0), ("rows", numbered(5)[2:], False))

    def test_no_rows(self):
        for most in (0, 1):
            with self.subTest(most):
                self.assert_runs(with_portal("scan t", []), most, ("rows", [], False),
                                 ("wrong", "at end"))
                self.assert_runs(with_portal("get t 9", numbered(3)), most,
                                 ("rows", [], False), ("wrong", "at end"))

    def test_get_and_total(self):
        self.assert_runs(with_portal("get t 2", numbered(3)), 1, ("rows", [(2, 20)], False),
                         ("wrong", "at end"))
        self.assert_runs(with_portal("total t", numbered(3)), 1, ("rows", [(3,)], False),
                         ("wrong", "at end"))

    def test_in_one_batch(self):
        outcome = Session([("t", numbered(3))]).run_batch([
            ("prepare", "s", "scan t"), ("bind", "p", "s", ()), ("run", "p", 2),
            ("run", "p", 2), ("run", "p", 2), ("run", "p", 2)])
        self.assertEqual(outcome, ("none", [
            ("prepared", 0), ("bound",), ("rows", [(1, 10), (2, 20)], True),
            ("rows", [(3, 30)], False), ("wrong", "at end"), ("skipped",)]))

    def test_two_portals_do_not_disturb_each_other(self):
        session = with_portal("scan t", numbered(4))
        only(session, "bind", "q", "s", ())
        self.assertEqual(only(session, "run", "p", 1), ("rows", [(1, 10)], True))
        self.assertEqual(only(session, "run", "q", 2), ("rows", [(1, 10), (2, 20)], True))
        self.assertEqual(only(session, "run", "p", 1), ("rows", [(2, 20)], True))
        self.assertEqual(only(session, "run", "q", 0), ("rows", [(3, 30), (4, 40)], False))
        self.assertEqual(only(session, "run", "p", 0), ("rows", [(3, 30), (4, 40)], False))

    def test_a_portal_made_again_begins_again(self):
        session = with_portal("scan t", numbered(2))
        only(session, "run", "p", 1)
        session.run_batch([("close", "p"), ("bind", "p", "s", ())])
        self.assert_runs(session, 0, ("rows", numbered(2), False))


class TheFirstRun(unittest.TestCase):
    def test_the_rows_are_those_at_the_first_run(self):
        for change in ("put t 3 'new'", "put t 9 9", "delete t 3", "drop t"):
            with self.subTest(change):
                session = with_portal("scan t", numbered(3))
                self.assertEqual(only(session, "run", "p", 1), ("rows", [(1, 10)], True))
                self.assertEqual(tell(session, change)[0], "complete")
                self.assertEqual(only(session, "run", "p", 0),
                                 ("rows", [(2, 20), (3, 30)], False))

    def test_not_those_when_it_was_bound(self):
        session = with_portal("scan t", numbered(3))
        tell(session, "put t 2 'new'")
        self.assertEqual(only(session, "run", "p", 0),
                         ("rows", [(1, 10), (2, "new"), (3, 30)], False))

    def test_behind_undo(self):
        session = with_portal("scan t", numbered(3))
        tell(session, "save n")
        tell(session, "put t 4 40")
        self.assertEqual(only(session, "run", "p", 1), ("rows", [(1, 10)], True))
        tell(session, "undo n")
        self.assertEqual(only(session, "run", "p", 0), ("rows", numbered(4)[1:], False))

    def test_at_end_although_there_are_new_rows(self):
        session = with_portal("scan t", [])
        only(session, "run", "p", 0)
        tell(session, "put t 1 1")
        self.assertEqual(only(session, "run", "p", 0), ("wrong", "at end"))


class WithoutRows(unittest.TestCase):
    def test_complete(self):
        for statement, count in (("put t 9 9", 1), ("put t 1 9", 1), ("delete t 1", 1),
                                 ("delete t 9", 0), ("drop t", 3), ("create u", 0),
                                 ("save n", 0)):
            for most in (0, 1, 1000):
                with self.subTest(statement, most=most):
                    session = with_portal(statement, numbered(3))
                    self.assertEqual(only(session, "run", "p", most), ("complete", count))
                    self.assertEqual(only(session, "run", "p", most), ("wrong", "at end"))

    def test_a_statement_runs_once(self):
        session = with_portal("delete t 1", numbered(3))
        only(session, "run", "p", 0)
        tell(session, "put t 1 1")
        self.assertEqual(only(session, "run", "p", 0), ("wrong", "at end"))
        self.assertEqual(session.tables()[0][1][0], (1, 1))


class Errors(unittest.TestCase):
    def test_no_portal(self):
        session = Session()
        self.assertEqual(only(session, "run", "p", 0), ("wrong", "no portal"))
        only(session, "prepare", "p", "begin")
        self.assertEqual(only(session, "run", "p", 0), ("wrong", "no portal"))

    def test_no_portal_before_failed(self):
        session = with_portal("scan t", [])
        only(session, "run", "nothing", 0)
        self.assertEqual(only(session, "run", "nothing", 0), ("wrong", "no portal"))

    def test_failed(self):
        for statement in ("create u", "drop t", "put t 1 1", "delete t 1", "get t 1", "scan t",
                          "scan t 1 2", "total t", "begin", "save n"):
            with self.subTest(statement):
                session = with_portal(statement, numbered(3))
                only(session, "run", "nothing", 0)
                self.assertEqual(only(session, "run", "p", 0), ("wrong", "failed"))
                self.assertEqual(session.tables(), [("t", numbered(3))])

    def test_failed_before_the_errors_of_statements(self):
        for statement in ("create t", "drop u", "put u 1 1", "put t 99 1", "begin", "get u 1"):
            with self.subTest(statement):
                session = with_portal(statement, numbered(20))
                only(session, "run", "nothing", 0)
                self.assertEqual(only(session, "run", "p", 0), ("wrong", "failed"))

    def test_failed_before_at_end(self):
        for statement in ("scan t", "put t 1 1", "save n"):
            with self.subTest(statement):
                session = with_portal(statement, numbered(3))
                only(session, "run", "p", 0)
                only(session, "run", "nothing", 0)
                self.assertEqual(only(session, "run", "p", 0), ("wrong", "failed"))

    def test_failed_also_if_there_are_more_rows(self):
        session = with_portal("scan t", numbered(3))
        tell(session, "save n")
        only(session, "run", "p", 1)
        only(session, "run", "nothing", 0)
        self.assertEqual(only(session, "run", "p", 1), ("wrong", "failed"))
        tell(session, "undo n")
        self.assertEqual(only(session, "run", "p", 1), ("rows", [(2, 20)], True))

    def test_at_end_in_a_failed_transaction(self):
        session = with_portal("undo n", [])
        tell(session, "save n")
        self.assertEqual(only(session, "run", "p", 0), ("complete", 0))
        only(session, "run", "nothing", 0)
        self.assertEqual(only(session, "run", "p", 0), ("wrong", "at end"))
        self.assertEqual(state_of(session), "failed")

    def test_at_end_before_the_errors_of_statements(self):
        session = with_portal("create u", [])
        only(session, "run", "p", 0)
        self.assertEqual(only(session, "run", "p", 0), ("wrong", "at end"))
        session = with_portal("scan t", [])
        only(session, "run", "p", 0)
        tell(session, "drop t")
        self.assertEqual(only(session, "run", "p", 0), ("wrong", "at end"))

    def test_a_portal_with_more_rows_has_no_errors_of_its_statement(self):
        session = with_portal("scan t", numbered(2))
        only(session, "run", "p", 1)
        tell(session, "drop t")
        self.assertEqual(only(session, "run", "p", 1), ("rows", [(2, 20)], False))

    def test_an_error_counts_as_not_run(self):
        for statement, error, remedy, reply in (
            ("scan u", "no table", "create u", ("rows", [], False)),
            ("create t", "exists", "drop t", ("complete", 0)),
            ("put t 99 1", "full", "delete t 1", ("complete", 1)),
            ("undo m", "no savepoint", "save m", ("complete", 0)),
        ):
            with self.subTest(statement):
                session = with_portal(statement, numbered(20))
                tell(session, "save n")
                self.assertEqual(only(session, "run", "p", 0), ("wrong", error))
                tell(session, "undo n")
                self.assertEqual(tell(session, remedy)[0], "complete")
                self.assertEqual(only(session, "run", "p", 0), reply)
                self.assertEqual(only(session, "run", "p", 0), ("wrong", "at end"))

    def test_an_error_again(self):
        session = with_portal("scan u", [])
        tell(session, "save n")
        only(session, "run", "p", 0)
        tell(session, "undo n")
        self.assertEqual(only(session, "run", "p", 0), ("wrong", "no table"))


if __name__ == "__main__":
    unittest.main()
