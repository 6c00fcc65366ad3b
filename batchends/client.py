"""The client: it collects commands in batches, and sends these until they were run."""

from batchends.commands import check_most, check_name, check_string, check_values, copy_reply, fits
from batchends.errors import BatchFull, NoSuchBatch, TooManyBatches
from batchends.kinds import is_integer
from batchends.limits import MOST_BATCHES, MOST_COMMANDS
from batchends.lines import Line
from batchends.wires import client_bytes


class Client:
    """A client. The number of its session is 0 as long as it knows none."""

    def __init__(self):
        self._line = Line("server")
        self._number = 0
        self._commands = []
        self._batches = []
        self._outcomes = []
        self._replies = []

    @property
    def phase(self):
        return self._line.stage

    @property
    def reason(self):
        return self._line.why

    @property
    def session(self):
        return self._number

    @property
    def handed(self):
        return len(self._batches)

    @property
    def received(self):
        return len(self._outcomes)

    @property
    def waiting(self):
        return self._line.many_to_send()

    def prepare(self, name, string):
        """Adds a command to the next batch, and returns its place, as the next four do."""
        check_name(name)
        check_string(string)
        return self._add(("prepare", name, string))

    def bind(self, portal, name, values):
        check_name(portal)
        check_name(name)
        check_values(values)
        return self._add(("bind", portal, name, tuple(values)))

    def run(self, portal, most=0):
        check_name(portal)
        check_most(most)
        return self._add(("run", portal, most))

    def forget(self, name):
        check_name(name)
        return self._add(("forget", name))

    def close(self, portal):
        check_name(portal)
        return self._add(("close", portal))

    def sync(self):
        """Hands the next batch over, and returns its number."""
        if len(self._batches) >= MOST_BATCHES:
            raise TooManyBatches("50 batches were handed over")
        self._batches.append(self._commands)
        self._commands = []
        batch = len(self._batches)
        if self._line.stage == "open":
            self._send_batch(batch)
        return batch

    def connect(self):
        """Begins a connection, or raises NotClosed."""
        self._line.begin()
        self._line.send(client_bytes(("hello", self._number, len(self._outcomes))))

    def lost(self):
        """Tells that the connection is lost."""
        self._line.lose()
        self._replies = []

    def take(self, most):
        """Returns the next bytes to be sent, at most so many."""
        return self._line.take(most)

    def receive(self, data):
        """Takes bytes that have arrived."""
        messages, all_read = self._line.read(data)
        for message in messages:
            if self._line.stage != "ended":
                self._hear(message)
        if not all_read and self._line.stage != "ended":
            self._end("bytes")

    def outcome(self, batch):
        """Returns the outcome of a batch, or None if it was not received yet."""
        if not is_integer(batch) or not 1 <= batch <= len(self._batches):
            raise NoSuchBatch("no batch of this number was handed over")
        if batch > len(self._outcomes):
            return None
        state, replies = self._outcomes[batch - 1]
        return state, [copy_reply(reply) for reply in replies]

    def _add(self, command):
        if len(self._commands) >= MOST_COMMANDS:
            raise BatchFull("a batch has at most 20 commands")
        self._commands.append(command)
        return len(self._commands) - 1

    def _send_batch(self, batch):
        for command in self._batches[batch - 1]:
            self._line.send(client_bytes(command))
        self._line.send(client_bytes(("sync", batch, len(self._outcomes))))

    def _end(self, reason):
        self._line.finish(reason)
        self._line.drop_bytes()
        self._replies = []

    def _hear(self, message):
        stage = self._line.stage
        word = message[0]
        if word == "refused":
            self._end(message[1])
        elif stage == "greeting" and word == "welcome":
            self._take_welcome(message[1], message[2])
        elif stage == "greeting" or word == "welcome":
            self._end("message")
        elif word == "ready":
            self._take_ready(message[1], message[2])
        else:
            self._take_reply(message)

    def _take_welcome(self, number, done):
        is_own = number != 0 and self._number in (0, number)
        if not is_own or not len(self._outcomes) <= done <= len(self._batches):
            self._end("welcome")
            return
        self._number = number
        self._line.welcome()
        for batch in range(done + 1, len(self._batches) + 1):
            self._send_batch(batch)

    def _take_reply(self, reply):
        place = len(self._replies)
        commands = self._running()
        if place < len(commands) and fits(commands[place], reply):
            self._replies.append(reply)
        else:
            self._end("reply")

    def _take_ready(self, batch, state):
        is_first = batch == len(self._outcomes) + 1 and batch <= len(self._batches)
        if is_first and len(self._replies) == len(self._running()):
            self._outcomes.append((state, self._replies))
            self._replies = []
        else:
            self._end("reply")

    def _running(self):
        """Returns the commands of the first batch without an outcome, if there is one."""
        received = len(self._outcomes)
        return self._batches[received] if received < len(self._batches) else []
