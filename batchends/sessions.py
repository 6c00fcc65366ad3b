"""Plain sessions: they run batches of commands on a store."""

from batchends.errors import Unreadable
from batchends.portals import Portal
from batchends.statements import fill_parts, parameters, parse_statement
from batchends.stores import list_tables, make_store, run_on_store

MOST_STATEMENTS = 8
MOST_PORTALS = 8
MOST_SAVEPOINTS = 10
ENDINGS = ("commit", "rollback", "undo")


class Session:
    """A plain session. Its state is none, open or failed, for its transaction."""

    def __init__(self, tables=()):
        self._store = make_store(tables)
        self._base = self._store
        self._state = "none"
        self._savepoints = []
        self._prepared = {}
        self._portals = {}

    def tables(self):
        """Returns the list of the tables of the store."""
        return list_tables(self._store)

    def base(self):
        """Returns the list of the tables of the base."""
        return list_tables(self._base)

    def run_batch(self, commands):
        """Runs a batch and returns its outcome."""
        replies = []
        failed = False
        for command in commands:
            if failed:
                replies.append(("skipped",))
            else:
                reply = self._run_command(command)
                replies.append(reply)
                failed = reply[0] == "wrong"
        if failed:
            self._go_back()
        if self._state == "none":
            self._base = self._store
            self._portals = {}
        return self._state, replies

    def _go_back(self):
        """What an error does; nothing has an effect between it and the end of its batch."""
        if self._state == "none":
            self._store = self._base
        else:
            self._state = "failed"

    def _run_command(self, command):
        match command:
            case ["prepare", name, string]:
                return self._prepare(name, string)
            case ["bind", portal, name, values]:
                return self._bind(portal, name, values)
            case ["run", portal, most]:
                return self._run(portal, most)
            case ["forget", name]:
                return self._forget(name)
            case ["close", portal]:
                return self._close(portal)

    def _prepare(self, name, string):
        if name in self._prepared:
            return ("wrong", "taken")
        if len(self._prepared) >= MOST_STATEMENTS:
            return ("wrong", "crowded")
        try:
            parts = parse_statement(string)
        except Unreadable:
            return ("wrong", "unreadable")
        self._prepared[name] = parts
        return ("prepared", parameters(parts))

    def _bind(self, portal, name, values):
        if portal in self._portals:
            return ("wrong", "taken")
        if len(self._portals) >= MOST_PORTALS:
            return ("wrong", "crowded")
        if name not in self._prepared:
            return ("wrong", "no statement")
        parts = self._prepared[name]
        if len(values) != parameters(parts):
            return ("wrong", "values")
        self._portals[portal] = Portal(fill_parts(parts, values))
        return ("bound",)

    def _forget(self, name):
        self._prepared.pop(name, None)
        return ("closed",)

    def _close(self, portal):
        self._portals.pop(portal, None)
        return ("closed",)

    def _run(self, name, most):
        if name not in self._portals:
            return ("wrong", "no portal")
        portal = self._portals[name]
        if self._state == "failed" and portal.parts[0] not in ENDINGS:
            return ("wrong", "failed")
        if portal.ended:
            return ("wrong", "at end")
        if portal.rows is not None:
            return portal.portion(most)
        answer = self._run_statement(portal.parts)
        if answer[0] == "rows":
            portal.rows = answer[1]
            return portal.portion(most)
        portal.ended = answer[0] == "complete"
        return answer

    def _run_statement(self, parts):
        match parts:
            case ["begin"]:
                return self._begin()
            case ["commit"]:
                return self._commit()
            case ["rollback"]:
                return self._roll_back()
            case ["save", name]:
                return self._save(name)
            case ["undo", name]:
                return self._undo(name)
        self._store, answer = run_on_store(self._store, parts)
        return answer

    def _begin(self):
        if self._state != "none":
            return ("wrong", "in transaction")
        self._state = "open"
        return ("complete", 0)

    def _commit(self):
        if self._state == "none":
            return ("wrong", "no transaction")
        if self._state == "failed":
            self._store = self._base
            self._end_transaction()
            return ("wrong", "rolled back")
        self._base = self._store
        self._end_transaction()
        return ("complete", 0)

    def _roll_back(self):
        if self._state == "none":
            return ("wrong", "no transaction")
        self._store = self._base
        self._end_transaction()
        return ("complete", 0)

    def _end_transaction(self):
        self._state = "none"
        self._savepoints = []
        self._portals = {}

    def _save(self, name):
        if self._state == "none":
            return ("wrong", "no transaction")
        if len(self._savepoints) >= MOST_SAVEPOINTS:
            return ("wrong", "crowded")
        self._savepoints.append((name, self._store))
        return ("complete", 0)

    def _undo(self, name):
        if self._state == "none":
            return ("wrong", "no transaction")
        at = len(self._savepoints) - 1
        while at >= 0 and self._savepoints[at][0] != name:
            at -= 1
        if at < 0:
            return ("wrong", "no savepoint")
        self._savepoints = self._savepoints[:at + 1]
        self._store = self._savepoints[at][1]
        self._state = "open"
        return ("complete", 0)
