"""Points 1 and 2: lists for tuples, and nothing that is passed or returned is shared."""

import copy
import random
import unittest

from batchends.sessions import Session
from tests.helpers import as_lists, as_tuples, in_transaction, numbered, tell

TABLES = [("t", [(1, "one"), ("k", 2)]), ("u", [])]
COMMANDS = [("prepare", "s", "put t $1 $2"), ("bind", "p", "s", (5, "five")), ("run", "p", 0),
            ("prepare", "all", "scan t"), ("bind", "q", "all", ()), ("run", "q", 2),
            ("run", "q", 1), ("forget", "s"), ("close", "p")]
STATEMENTS = ("begin", "commit", "rollback", "save n", "undo n", "scan t", "scan u", "put t $1 $2",
              "put u $2 $1", "delete t $1", "create t", "create u", "drop t", "total t", "get u $1")


def some_command(chance):
    """A command that is chosen by a source of chance."""
    name, portal = chance.choice("abc"), chance.choice("pqr")
    return chance.choice([
        ["prepare", name, chance.choice(STATEMENTS)],
        ["bind", portal, name, [chance.randrange(4) for _ in range(chance.randrange(3))]],
        ["run", portal, chance.randrange(3)], ["run", portal, 0],
        ["forget", name], ["close", portal],
    ])


def spoil(value):
    """Empties all lists of what was passed or returned."""
    if isinstance(value, (list, tuple)):
        for part in value:
            spoil(part)
    if isinstance(value, list):
        value.clear()


class ListsAndTuples(unittest.TestCase):
    def test_tables(self):
        for form in (as_lists, as_tuples):
            session = Session(form(TABLES))
            for found in (session.tables(), session.base()):
                self.assertEqual(found, TABLES)
                self.assertIs(type(found), list)
                self.assertEqual([type(table) for table in found], [tuple] * 2)
                self.assertEqual([type(table[1]) for table in found], [list] * 2)
                self.assertEqual([type(row) for row in found[0][1]], [tuple] * 2)

    def test_commands(self):
        expected = Session(TABLES).run_batch(COMMANDS)
        self.assertEqual(expected[1][5:7], [("rows", [(1, "one"), (5, "five")], True),
                                            ("rows", [("k", 2)], False)])
        for form in (as_lists, as_tuples):
            outcome = Session(form(TABLES)).run_batch(form(COMMANDS))
            self.assertEqual(outcome, expected)
            self.assertIs(type(outcome), tuple)
            self.assertIs(type(outcome[1]), list)
            self.assertEqual([type(reply) for reply in outcome[1]], [tuple] * len(COMMANDS))
            self.assertEqual([type(row) for row in outcome[1][5][1]], [tuple] * 2)

    def test_keyword(self):
        self.assertEqual(Session(tables=TABLES).tables(), TABLES)


class NothingIsShared(unittest.TestCase):
    def test_what_is_passed_stays(self):
        tables, commands = as_lists(TABLES), as_lists(COMMANDS)
        session = Session(tables)
        session.run_batch(commands)
        self.assertEqual(tables, as_lists(TABLES))
        self.assertEqual(commands, as_lists(COMMANDS))

    def test_tables_that_are_changed_afterwards(self):
        tables = as_lists(TABLES)
        session = Session(tables)
        tables[0][1][0][1] = "changed"
        tables[0][1].append([9, 9])
        tables.pop()
        self.assertEqual(session.tables(), TABLES)
        self.assertEqual(session.base(), TABLES)

    def test_returned_tables_that_are_changed(self):
        session = Session(TABLES)
        for give in (session.tables, session.base):
            found = give()
            found[0][1].clear()
            found.clear()
            self.assertEqual(session.tables(), TABLES)
            self.assertEqual(session.base(), TABLES)

    def test_returned_tables_are_not_changed_later(self):
        session = Session(TABLES)
        tables, base = session.tables(), session.base()
        tell(session, "put u 1 1")
        tell(session, "delete t 1")
        tell(session, "drop t")
        self.assertEqual(tables, TABLES)
        self.assertEqual(base, TABLES)

    def test_values_that_are_changed_afterwards(self):
        session = in_transaction([("t", numbered(3))])
        values = [2]
        session.run_batch([["prepare", "s", "get t $1"], ["bind", "p", "s", values]])
        values[0] = 3
        values.append(1)
        self.assertEqual(session.run_batch([["run", "p", 0]])[1], [("rows", [(2, 20)], False)])

    def test_returned_rows_that_are_changed(self):
        session = in_transaction([("t", numbered(3))])
        replies = session.run_batch([("prepare", "s", "scan t"), ("bind", "p", "s", ()),
                                     ("run", "p", 1)])[1]
        replies[2][1].clear()
        replies.clear()
        self.assertEqual(session.run_batch([("run", "p", 0)])[1],
                         [("rows", [(2, 20), (3, 30)], False)])
        self.assertEqual(session.tables(), [("t", numbered(3))])

    def test_many_batches(self):
        chance = random.Random(7)
        for _ in range(60):
            tables = as_lists(TABLES)
            spoiled, plain = Session(tables), Session(TABLES)
            spoil(tables)
            kept, copies = [], []
            for _ in range(30):
                commands = [some_command(chance) for _ in range(chance.randrange(8))]
                outcome = plain.run_batch(copy.deepcopy(commands))
                kept.append((outcome, plain.tables(), plain.base()))
                copies.append(copy.deepcopy(kept[-1]))
                passed = copy.deepcopy(commands)
                other = spoiled.run_batch(passed)
                self.assertEqual(passed, commands)
                self.assertEqual((other, spoiled.tables(), spoiled.base()), copies[-1])
                spoil(passed)
                spoil(other)
                spoil(spoiled.tables())
                spoil(spoiled.base())
            self.assertEqual(kept, copies)


class BeyondTheLimits(unittest.TestCase):
    """Where no point names an error, going somewhat beyond a limit raises none."""

    def test_tables_and_rows(self):
        tables = [(name, numbered(21)) for name in "abcde"]
        session = Session(tables)
        self.assertEqual(session.tables(), tables)
        self.assertEqual(tell(session, "create f"), ("wrong", "crowded"))
        self.assertEqual(tell(session, "put a 99 1"), ("wrong", "full"))
        self.assertEqual(tell(session, "total a"), ("rows", [(21,)], False))

    def test_commands(self):
        self.assertEqual(Session().run_batch([("forget", "a")] * 25),
                         ("none", [("closed",)] * 25))

    def test_names_values_and_most(self):
        session = Session([("t", [])])
        outcome = session.run_batch([
            ("prepare", "statement", "put t $1 $2"), ("prepare", "other", "scan t"),
            ("bind", "longportal", "statement", ("x" * 41, 2147483648)), ("bind", "p", "other", ()),
            ("run", "longportal", 1001), ("run", "p", 1001)])
        self.assertEqual(outcome[1][4:], [("complete", 1),
                                          ("rows", [("x" * 41, 2147483648)], False)])


if __name__ == "__main__":
    unittest.main()
