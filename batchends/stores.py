"""Stores of tables, and the statements that work on them.

A store is a tuple of tables, a table a tuple of a name and its rows, the rows
a tuple of tuples. As nothing of it can change, sessions keep stores to which
they may go back without copying them.

Each statement returns the store behind it and its answer: the reply, or
("rows", rows) with all its rows.
"""

from batchends.kinds import value_order

MOST_TABLES = 4
MOST_ROWS = 20


def make_store(tables):
    return tuple([(name, in_order(rows)) for name, rows in tables])


def list_tables(store):
    return [(name, list(rows)) for name, rows in store]


def run_on_store(store, parts):
    """Runs a statement with a table, whose terms are values."""
    word, name, *terms = parts
    if word == "create":
        return create_table(store, name)
    if rows_of(store, name) is None:
        return store, ("wrong", "no table")
    action = ACTIONS[word]
    return action(store, name, *terms)


def create_table(store, name):
    if rows_of(store, name) is not None:
        return store, ("wrong", "exists")
    if len(store) >= MOST_TABLES:
        return store, ("wrong", "crowded")
    return (*store, (name, ())), ("complete", 0)


def drop_table(store, name):
    left = tuple([table for table in store if table[0] != name])
    return left, ("complete", len(rows_of(store, name)))


def put_row(store, name, key, entry):
    rows = [*rows_without(store, name, key), (key, entry)]
    if len(rows) > MOST_ROWS:
        return store, ("wrong", "full")
    return with_rows(store, name, in_order(rows)), ("complete", 1)


def delete_row(store, name, key):
    rows = rows_without(store, name, key)
    count = len(rows_of(store, name)) - len(rows)
    return with_rows(store, name, rows), ("complete", count)


def get_row(store, name, key):
    return store, ("rows", tuple([row for row in rows_of(store, name) if row[0] == key]))


def scan_rows(store, name, low=None, high=None):
    rows = rows_of(store, name)
    if low is None:
        return store, ("rows", rows)
    least = value_order(low)
    greatest = value_order(high)
    return store, ("rows", tuple([row for row in rows if least <= row_order(row) <= greatest]))


def count_rows(store, name):
    return store, ("rows", ((len(rows_of(store, name)),),))


def rows_of(store, name):
    """Returns the rows of a table, or None if there is no table of this name."""
    for other, rows in store:
        if other == name:
            return rows
    return None


def rows_without(store, name, key):
    return tuple([row for row in rows_of(store, name) if row[0] != key])


def with_rows(store, name, rows):
    return tuple([(other, rows if other == name else old) for other, old in store])


def in_order(rows):
    return tuple(sorted([tuple(row) for row in rows], key=row_order))


def row_order(row):
    return value_order(row[0])


ACTIONS = {
    "drop": drop_table,
    "put": put_row,
    "delete": delete_row,
    "get": get_row,
    "scan": scan_rows,
    "total": count_rows,
}
