"""The server: it runs batches, and sends outcomes until the client is known to have them."""

from batchends.limits import MOST_BATCHES, MOST_COMMANDS
from batchends.lines import Line
from batchends.sessions import Session
from batchends.wires import server_bytes


class Server:
    """A server. The number of its session is 0 when there is none."""

    def __init__(self):
        self._line = Line("client")
        self._number = 0
        self._plain = Session()
        self._outcomes = []
        self._known = 0
        self._commands = []

    @property
    def phase(self):
        return self._line.stage

    @property
    def reason(self):
        return self._line.why

    @property
    def session(self):
        return self._number

    @property
    def done(self):
        return len(self._outcomes)

    @property
    def known(self):
        return self._known

    @property
    def waiting(self):
        return self._line.many_to_send()

    def tables(self):
        """Returns the list of the tables of the base of the session."""
        return self._plain.base()

    def accept(self):
        """Begins a connection, or raises NotClosed."""
        self._line.begin()

    def lost(self):
        """Tells that the connection is lost."""
        self._line.lose()
        self._commands = []

    def take(self, most):
        """Returns the next bytes to be sent, at most so many."""
        return self._line.take(most)

    def receive(self, data):
        """Takes bytes that have arrived."""
        messages, all_read = self._line.read(data)
        for message in messages:
            if self._line.stage != "ended":
                self._hear(message)
        if not all_read and self._line.stage != "ended":
            self._refuse("bytes")

    def _hear(self, message):
        stage = self._line.stage
        word = message[0]
        if stage == "greeting" and word == "hello":
            self._greet(message[1], message[2])
        elif stage == "greeting" or word == "hello":
            self._refuse("message")
        elif word == "sync":
            self._end_batch(message[1], message[2])
        else:
            self._add_command(message)

    def _refuse(self, reason):
        self._line.send(server_bytes(("refused", reason)))
        self._line.finish(reason)
        self._commands = []

    def _greet(self, number, received):
        if number == 0:
            self._begin_session()
        elif number == self._number and self._may_have(received):
            self._known = received
        else:
            self._refuse("session")
            return
        self._line.welcome()
        self._line.send(server_bytes(("welcome", self._number, len(self._outcomes))))
        for batch in range(self._known + 1, len(self._outcomes) + 1):
            self._send_outcome(batch)

    def _begin_session(self):
        self._number += 1
        self._plain = Session(self._plain.base())
        self._outcomes = []
        self._known = 0

    def _may_have(self, received):
        """Whether the client may have received so many outcomes."""
        return self._known <= received <= len(self._outcomes)

    def _add_command(self, command):
        if len(self._commands) >= MOST_COMMANDS:
            self._refuse("toolong")
        else:
            self._commands.append(command)

    def _end_batch(self, batch, received):
        is_next = batch == len(self._outcomes) + 1 and batch <= MOST_BATCHES
        if not is_next or not self._may_have(received):
            self._refuse("notnext")
            return
        self._known = received
        self._outcomes.append(self._plain.run_batch(self._commands))
        self._commands = []
        self._send_outcome(batch)

    def _send_outcome(self, batch):
        state, replies = self._outcomes[batch - 1]
        for reply in replies:
            self._line.send(server_bytes(reply))
        self._line.send(server_bytes(("ready", batch, state)))
