"""Points 2, 3, 4 and 7: the store, its statements, and their errors."""

import unittest

from batchends.sessions import Session
from tests.helpers import numbered, tell

FOUR = [("a", []), ("b", []), ("c", []), ("d", [])]


class Tables(unittest.TestCase):
    def test_a_new_session_has_none(self):
        self.assertEqual(Session().tables(), [])
        self.assertEqual(Session().base(), [])
        self.assertEqual(Session([]).tables(), [])

    def test_the_given_ones(self):
        tables = [("b", [(1, "x"), ("k", 2)]), ("a", [])]
        self.assertEqual(Session(tables).tables(), tables)
        self.assertEqual(Session(tables).base(), tables)

    def test_create(self):
        session = Session()
        self.assertEqual(tell(session, "create t"), ("complete", 0))
        self.assertEqual(session.tables(), [("t", [])])

    def test_create_what_exists(self):
        session = Session([("t", numbered(1))])
        self.assertEqual(tell(session, "create t"), ("wrong", "exists"))
        self.assertEqual(session.tables(), [("t", numbered(1))])

    def test_the_fourth_and_the_fifth_table(self):
        session = Session(FOUR[:3])
        self.assertEqual(tell(session, "create d"), ("complete", 0))
        self.assertEqual(session.tables(), FOUR)
        self.assertEqual(tell(session, "create e"), ("wrong", "crowded"))
        self.assertEqual(session.tables(), FOUR)

    def test_exists_before_crowded(self):
        self.assertEqual(tell(Session(FOUR), "create d"), ("wrong", "exists"))

    def test_the_order_of_creation(self):
        session = Session()
        for name in ("m", "z", "a"):
            tell(session, f"create {name}")
        self.assertEqual(session.tables(), [("m", []), ("z", []), ("a", [])])
        tell(session, "put z 1 1")
        self.assertEqual(session.tables(), [("m", []), ("z", [(1, 1)]), ("a", [])])
        tell(session, "drop m")
        tell(session, "create m")
        self.assertEqual(session.tables(), [("z", [(1, 1)]), ("a", []), ("m", [])])
        self.assertEqual(session.base(), session.tables())

    def test_drop_counts_rows(self):
        session = Session([("a", []), ("b", numbered(1)), ("c", numbered(20))])
        self.assertEqual(tell(session, "drop a"), ("complete", 0))
        self.assertEqual(tell(session, "drop c"), ("complete", 20))
        self.assertEqual(session.tables(), [("b", numbered(1))])
        self.assertEqual(tell(session, "drop b"), ("complete", 1))
        self.assertEqual(session.tables(), [])

    def test_a_table_made_again_has_no_rows(self):
        session = Session([("a", numbered(3))])
        tell(session, "drop a")
        tell(session, "create a")
        self.assertEqual(session.tables(), [("a", [])])

    def test_drop_makes_room(self):
        session = Session(FOUR)
        tell(session, "drop b")
        self.assertEqual(tell(session, "create e"), ("complete", 0))

    def test_no_table(self):
        for statement in ("drop t", "put t 1 2", "delete t 1", "get t 1", "scan t",
                          "scan t 1 2", "total t"):
            with self.subTest(statement):
                session = Session([("u", numbered(20))])
                self.assertEqual(tell(session, statement), ("wrong", "no table"))
                self.assertEqual(session.tables(), [("u", numbered(20))])

    def test_no_table_without_any(self):
        self.assertEqual(tell(Session(), "scan t"), ("wrong", "no table"))

    def test_only_the_named_table_changes(self):
        session = Session([("a", numbered(2)), ("b", numbered(2)), ("c", numbered(2))])
        tell(session, "put b 3 30")
        tell(session, "delete b 1")
        self.assertEqual(session.tables(),
                         [("a", numbered(2)), ("b", [(2, 20), (3, 30)]), ("c", numbered(2))])


class Rows(unittest.TestCase):
    def rows(self, session):
        return session.tables()[0][1]

    def test_put(self):
        session = Session([("t", [])])
        self.assertEqual(tell(session, "put t 1 'one'"), ("complete", 1))
        self.assertEqual(self.rows(session), [(1, "one")])
        self.assertEqual(tell(session, "put t 'k' -7"), ("complete", 1))
        self.assertEqual(self.rows(session), [(1, "one"), ("k", -7)])

    def test_an_equal_key_replaces(self):
        session = Session([("t", [(1, 1), (2, 2), ("1", 3)])])
        self.assertEqual(tell(session, "put t 1 'new'"), ("complete", 1))
        self.assertEqual(self.rows(session), [(1, "new"), (2, 2), ("1", 3)])
        self.assertEqual(tell(session, "put t '1' 4"), ("complete", 1))
        self.assertEqual(self.rows(session), [(1, "new"), (2, 2), ("1", 4)])
        self.assertEqual(tell(session, "put t 1 'new'"), ("complete", 1))

    def test_numbers_before_texts(self):
        session = Session([("t", [])])
        for key in ("'b'", "10", "''", "-3", "'10'", "9", "'B'", "2147483647", "'a'", "'ab'",
                    "-2147483648", "'9'", "' '", "0", "'~'"):
            self.assertEqual(tell(session, f"put t {key} 0"), ("complete", 1))
        keys = [row[0] for row in self.rows(session)]
        self.assertEqual(keys, [-2147483648, -3, 0, 9, 10, 2147483647,
                                "", " ", "10", "9", "B", "a", "ab", "b", "~"])

    def test_the_twenty_first_row(self):
        session = Session([("t", numbered(19))])
        self.assertEqual(tell(session, "put t 20 200"), ("complete", 1))
        self.assertEqual(tell(session, "put t 21 210"), ("wrong", "full"))
        self.assertEqual(self.rows(session), numbered(20))

    def test_a_full_table_takes_an_equal_key(self):
        session = Session([("t", numbered(20))])
        self.assertEqual(tell(session, "put t 20 'new'"), ("complete", 1))
        self.assertEqual(self.rows(session), numbered(19) + [(20, "new")])

    def test_each_table_has_room_of_its_own(self):
        session = Session([("t", numbered(20)), ("u", [])])
        self.assertEqual(tell(session, "put u 21 210"), ("complete", 1))

    def test_delete(self):
        session = Session([("t", [(1, 1), (2, 2), ("1", 3)])])
        self.assertEqual(tell(session, "delete t 3"), ("complete", 0))
        self.assertEqual(tell(session, "delete t '2'"), ("complete", 0))
        self.assertEqual(self.rows(session), [(1, 1), (2, 2), ("1", 3)])
        self.assertEqual(tell(session, "delete t 1"), ("complete", 1))
        self.assertEqual(self.rows(session), [(2, 2), ("1", 3)])
        self.assertEqual(tell(session, "delete t '1'"), ("complete", 1))
        self.assertEqual(self.rows(session), [(2, 2)])

    def test_delete_makes_room(self):
        session = Session([("t", numbered(20))])
        tell(session, "delete t 1")
        self.assertEqual(tell(session, "put t 21 210"), ("complete", 1))

    def test_get(self):
        session = Session([("t", [(1, "a"), ("1", "b")])])
        self.assertEqual(tell(session, "get t 1"), ("rows", [(1, "a")], False))
        self.assertEqual(tell(session, "get t '1'"), ("rows", [("1", "b")], False))
        self.assertEqual(tell(session, "get t 2"), ("rows", [], False))

    def test_scan(self):
        rows = [(-1, 0), (5, 1), ("", 2), ("x", 3)]
        self.assertEqual(tell(Session([("t", rows)]), "scan t"), ("rows", rows, False))
        self.assertEqual(tell(Session([("t", [])]), "scan t"), ("rows", [], False))

    def test_scan_with_bounds(self):
        rows = [(-1, 0), (5, 1), (7, 2), ("", 3), ("a", 4), ("b", 5)]
        session = Session([("t", rows)])
        for bounds, low, high in (
            ("-1 7", 0, 3), ("0 6", 1, 2), ("5 5", 1, 2), ("6 6", 0, 0), ("7 5", 0, 0),
            ("-2147483648 2147483647", 0, 3), ("5 'a'", 1, 5), ("8 'Z'", 3, 4), ("'' 'b'", 3, 6),
            ("'a' 'a'", 4, 5), ("'a' 5", 0, 0), ("'b' 'a'", 0, 0), ("-2147483648 '~'", 0, 6),
            ("'c' 'd'", 0, 0), ("-5 -2", 0, 0), ("-1 -1", 0, 1), ("'aa' 'bb'", 5, 6),
        ):
            with self.subTest(bounds):
                self.assertEqual(tell(session, f"scan t {bounds}"),
                                 ("rows", rows[low:high], False))

    def test_total(self):
        for many in (0, 1, 20):
            with self.subTest(many):
                session = Session([("t", numbered(many))])
                self.assertEqual(tell(session, "total t"), ("rows", [(many,)], False))

    def test_reading_changes_nothing(self):
        tables = [("t", numbered(5))]
        session = Session(tables)
        for statement in ("get t 1", "scan t", "scan t 2 3", "total t"):
            tell(session, statement)
        self.assertEqual(session.tables(), tables)

    def test_values_of_parameters(self):
        session = Session([("t", [])])
        tell(session, "put t $2 $1", ("$1", 5))
        self.assertEqual(self.rows(session), [(5, "$1")])
        tell(session, "put t $1 $1", ("begin",))
        self.assertEqual(self.rows(session), [(5, "$1"), ("begin", "begin")])
        tell(session, "put t '$1' $1", (-8,))
        self.assertEqual(tell(session, "get t $1", ("$1",)), ("rows", [("$1", -8)], False))
        self.assertEqual(tell(session, "scan t $1 $2", (5, "$9")),
                         ("rows", [(5, "$1"), ("$1", -8)], False))


if __name__ == "__main__":
    unittest.main()
