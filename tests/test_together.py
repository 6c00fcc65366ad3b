"""Points 1, 9, 16, 20, 25 and 26: both sides together do what one plain session does."""

import copy
import random
import unittest

from batchends.client import Client
from batchends.server import Server
from batchends.sessions import Session
from tests.helpers import commands_of

STATEMENTS = ("begin", "commit", "rollback", "save n", "save m", "undo n", "undo m", "scan t",
              "scan u", "scan t $1 $2", "put t $1 $2", "put u $2 $1", "put t $1 'a b'",
              "delete t $1", "create t", "create u", "drop t", "drop u", "total t", "get u $1",
              "get t '$1'", "nonsense", "")
VALUES = (0, 1, 2, -1, 2147483647, -2147483648, "", "a", "a b", "$1", "~" * 40)


def many_values(statement):
    return sum(f"${n}" in statement and f"'${n}'" not in statement for n in (1, 2))


def some_commands(chance):
    """Commands that are chosen by a source of chance; most of them run a statement."""
    commands = []
    for _ in range(chance.choice((0, 1, 1, 2, 3))):
        if chance.random() < 0.7:
            statement = chance.choice(STATEMENTS)
            values = [chance.choice(VALUES) for _ in range(many_values(statement))]
            commands += commands_of(statement, values, chance.randrange(3))
        else:
            name, portal = chance.choice("abc"), chance.choice("pq")
            commands.append(chance.choice([
                ("prepare", name, chance.choice(STATEMENTS)),
                ("bind", portal, name, [chance.choice(VALUES)] * chance.randrange(3)),
                ("run", chance.choice((portal, "ptl")), chance.randrange(2)),
                ("forget", name), ("close", portal)]))
    return commands[:20]


def add_command(client, command):
    word, *parts = command
    return {"prepare": client.prepare, "bind": client.bind, "run": client.run,
            "forget": client.forget, "close": client.close}[word](*parts)


class Carrier:
    """A client and a server, the bytes on their way, and a plain session beside them."""

    def __init__(self, test):
        self.test = test
        self.client, self.server = Client(), Server()
        self.to_server, self.to_client = [], []
        self.plain = Session()
        self.outcomes, self.bases = [], [[]]
        self.connected = False
        self.last_session = 0

    def hand_over(self, commands):
        for place, command in enumerate(commands):
            self.test.assertEqual(add_command(self.client, command), place)
        self.outcomes.append(self.plain.run_batch(copy.deepcopy(commands)))
        self.bases.append(self.plain.base())
        self.test.assertEqual(self.client.sync(), len(self.outcomes))

    def connect(self):
        self.client.connect()
        self.server.accept()
        self.connected = True

    def lose(self):
        self.client.lost()
        self.server.lost()
        self.to_server, self.to_client = [], []
        self.connected = False

    def send_from_client(self, many):
        self.to_server += self.client.take(many)

    def send_from_server(self, many):
        self.to_client += self.server.take(many)

    def bring_to_server(self, many):
        self.server.receive(self.to_server[:many])
        self.to_server = self.to_server[many:]

    def bring_to_client(self, many):
        self.client.receive(self.to_client[:many])
        self.to_client = self.to_client[many:]

    def carry(self, many):
        """Carries so many bytes, at most, each way."""
        self.send_from_client(many)
        self.bring_to_server(many)
        self.send_from_server(many)
        self.bring_to_client(many)

    def is_quiet(self):
        return not (self.client.waiting or self.server.waiting or self.to_server or self.to_client)

    def check(self):
        """What point 25 says of every moment."""
        test, client, server = self.test, self.client, self.server
        test.assertNotEqual(client.phase, "ended")
        test.assertNotEqual(server.phase, "ended")
        test.assertEqual((client.reason, server.reason), (None, None))
        test.assertLessEqual(client.received, server.done)
        test.assertLessEqual(server.done, client.handed)
        test.assertLessEqual(server.known, client.received)
        test.assertEqual(server.tables(), self.bases[server.done])
        if client.session:
            test.assertEqual(client.session, server.session)
        else:
            test.assertEqual((client.received, server.done), (0, 0))
        for batch, outcome in enumerate(self.outcomes, 1):
            expected = outcome if batch <= client.received else None
            test.assertEqual(repr(client.outcome(batch)), repr(expected))
        if client.phase == server.phase == "open" and self.is_quiet():
            test.assertEqual((server.done, client.received), (client.handed, client.handed))

    def finish(self, many=10 ** 6):
        """Carries all bytes, and checks that all is done."""
        if not self.connected:
            self.connect()
        while not self.is_quiet():
            self.carry(many)
        self.test.assertEqual((self.client.phase, self.server.phase), ("open", "open"))
        self.test.assertEqual(self.client.received, len(self.outcomes))
        self.check()


SCRIPT = (
    commands_of("create t") + commands_of("put t $1 $2", (1, "one")) + commands_of("begin"),
    commands_of("put t 2 'two'") + commands_of("save n") + commands_of("scan t", (), 1)
    + [("run", "ptl", 0)],
    [],
    commands_of("drop u") + commands_of("drop t"),
    commands_of("undo n") + commands_of("put t $1 $2", ("", -1)) + commands_of("commit"),
    commands_of("scan t $1 $2", (1, ""), 1000),
)


class Pieces(unittest.TestCase):
    def test_each_size(self):
        for size in (1, 2, 3, 4, 5, 7, 8, 11, 19, 50, 100, 1000):
            for before in range(len(SCRIPT) + 1):
                carrier = Carrier(self)
                for commands in SCRIPT[:before]:
                    carrier.hand_over(commands)
                carrier.finish(size)
                for commands in SCRIPT[before:]:
                    carrier.hand_over(commands)
                    carrier.finish(size)
                self.assertEqual(carrier.bases[-1], [("t", [(1, "one"), (2, "two"), ("", -1)])])

    def test_the_script_does_what_it_is_for(self):
        carrier = Carrier(self)
        for commands in SCRIPT:
            carrier.hand_over(commands)
        self.assertEqual([state for state, _ in carrier.outcomes],
                         ["open", "open", "open", "failed", "none", "none"])
        self.assertEqual(carrier.outcomes[1][1][-2:],
                         [("rows", [(1, "one")], True), ("rows", [(2, "two")], False)])
        self.assertEqual(carrier.outcomes[3][1][-6:], [("wrong", "no table")] + [("skipped",)] * 5)


class Losses(unittest.TestCase):
    def test_once_at_each_place(self):
        """The connection is lost behind so many bytes each way."""
        for size in (1, 9):
            steps, lost = 0, True
            while lost:
                lost = self.lose_once(steps, size)
                steps += 1
            self.assertGreater(steps, 30)

    def lose_once(self, steps, size):
        carrier = Carrier(self)
        carrier.connect()
        for commands in SCRIPT[:4]:
            carrier.hand_over(commands)
        for _ in range(steps):
            if carrier.is_quiet():
                return False
            carrier.carry(size)
        carrier.check()
        carrier.lose()
        carrier.check()
        for commands in SCRIPT[4:]:
            carrier.hand_over(commands)
        carrier.finish()
        return True

    def test_answers_that_are_lost(self):
        """All bytes of the client arrive, but not those of the server, or only some of them."""
        for many in range(120):
            carrier = Carrier(self)
            carrier.finish()
            for commands in SCRIPT:
                carrier.hand_over(commands)
            carrier.send_from_client(10 ** 6)
            carrier.bring_to_server(10 ** 6)
            self.assertEqual(carrier.server.done, len(SCRIPT))
            carrier.send_from_server(10 ** 6)
            carrier.bring_to_client(many)
            carrier.check()
            carrier.lose()
            carrier.finish()

    def test_every_few_bytes(self):
        for many in (30, 47, 100, 300):
            carrier = Carrier(self)
            for commands in SCRIPT:
                carrier.hand_over(commands)
            for _ in range(25):
                carrier.connect()
                for _ in range(many // 10):
                    carrier.carry(10)
                carrier.check()
                carrier.lose()
            carrier.finish()

    def test_welcomes_that_are_lost(self):
        """No batch is run in the sessions whose number the client does not receive."""
        carrier = Carrier(self)
        carrier.hand_over(SCRIPT[0])
        for session, many in ((1, 0), (2, 3), (3, 10)):
            carrier.connect()
            carrier.send_from_client(11)
            carrier.bring_to_server(11)
            carrier.send_from_server(11)
            carrier.bring_to_client(many)
            self.assertEqual((carrier.server.session, carrier.client.session), (session, 0))
            carrier.lose()
            carrier.check()
        carrier.finish()
        self.assertEqual((carrier.client.session, carrier.server.done), (4, 1))

    def test_hello_that_is_lost(self):
        carrier = Carrier(self)
        carrier.hand_over(SCRIPT[0])
        for many in range(11):
            carrier.connect()
            carrier.send_from_client(11)
            carrier.bring_to_server(many)
            carrier.lose()
            self.assertEqual(carrier.server.session, 0)
        carrier.finish()
        self.assertEqual(carrier.client.session, 1)

    def test_lost_without_any_bytes(self):
        carrier = Carrier(self)
        for _ in range(3):
            carrier.connect()
            carrier.check()
            carrier.lose()
            carrier.check()
            carrier.lose()
        carrier.hand_over(SCRIPT[0])
        carrier.finish()


class Chance(unittest.TestCase):
    def run_once(self, seed):
        chance = random.Random(seed)
        carrier = Carrier(self)
        sizes = chance.choice(((1, 3), (1, 30), (20, 200), (500, 2000)))
        losses = chance.choice((0, 0.01, 0.05))
        actions = (carrier.send_from_client, carrier.bring_to_server,
                   carrier.send_from_server, carrier.bring_to_client)
        for _ in range(chance.randrange(50, 300)):
            if not carrier.connected:
                if chance.random() < 0.5:
                    carrier.connect()
            elif chance.random() < losses:
                carrier.lose()
            if chance.random() < 0.15 and len(carrier.outcomes) < 50:
                carrier.hand_over(some_commands(chance))
            if carrier.connected:
                for _ in range(chance.randrange(8)):
                    chance.choice(actions)(chance.randrange(*sizes))
            if chance.random() < 0.2:
                carrier.check()
        carrier.finish(chance.randrange(*sizes))
        return carrier

    def test_many_runs(self):
        replies, states = set(), set()
        for seed in range(250):
            carrier = self.run_once(seed)
            for state, found in carrier.outcomes:
                states.add(state)
                replies.update(reply[:2] if reply[0] == "wrong" else reply[0] for reply in found)
        self.assertEqual(states, {"none", "open", "failed"})
        for reply in ("prepared", "bound", "rows", "complete", "closed", "skipped",
                      ("wrong", "unreadable"), ("wrong", "values"), ("wrong", "no statement"),
                      ("wrong", "no portal"), ("wrong", "failed"), ("wrong", "no table"),
                      ("wrong", "exists"), ("wrong", "in transaction"), ("wrong", "rolled back"),
                      ("wrong", "no transaction"), ("wrong", "no savepoint"), ("wrong", "taken")):
            self.assertIn(reply, replies)

    def test_fifty_batches_with_full_replies(self):
        carrier = Carrier(self)
        carrier.hand_over(commands_of("create t") + commands_of("begin"))
        rows = [(f"{n:040}", "y" * 40) for n in range(20)]
        for at in range(0, 20, 4):
            carrier.hand_over([command for row in rows[at:at + 4]
                               for command in commands_of("put t $1 $2", row)])
        carrier.connect()
        while len(carrier.outcomes) < 50:
            carrier.hand_over([("close", "p"), ("forget", "a"), ("prepare", "a", "scan t"),
                               ("bind", "p", "a", ())] + [("run", "p", 1)] * 15 + [("run", "p", 0)])
            carrier.carry(333)
            if len(carrier.outcomes) in (20, 33, 34):
                carrier.lose()
                carrier.connect()
        carrier.finish(1000)
        self.assertEqual(carrier.client.outcome(50)[1][-1], ("rows", rows[15:], False))

    def test_two_sessions_of_one_server(self):
        """A second client begins a new session on the base of the first one."""
        first = Carrier(self)
        for commands in SCRIPT[:2]:
            first.hand_over(commands)
        first.finish()
        first.lose()
        second = Carrier(self)
        second.server = first.server
        second.plain = Session(first.bases[-1])
        second.bases = [first.bases[-1]]
        second.hand_over(commands_of("scan t"))
        second.hand_over(commands_of("create t"))
        second.finish()
        self.assertEqual(second.client.session, 2)
        second.lose()
        first.client.connect()
        first.server.accept()
        first.server.receive(first.client.take(99))
        first.client.receive(first.server.take(99))
        self.assertEqual((first.client.phase, first.client.reason), ("ended", "session"))


if __name__ == "__main__":
    unittest.main()
