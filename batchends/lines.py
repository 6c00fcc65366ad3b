"""Lines: what a client and a server have in common, their end of a connection."""

from batchends.errors import NotClosed
from batchends.wires import Wire


class Line:
    """One end of a connection: its stage is the phase of its side, and why the reason for it."""

    def __init__(self, other_side):
        self.stage = "closed"
        self.why = None
        self._other_side = other_side
        self._wire = Wire(other_side)
        self._data = []
        self._taken = 0

    def begin(self):
        if self.stage != "closed":
            raise NotClosed("there is a connection")
        self.stage = "greeting"
        self._wire = Wire(self._other_side)

    def welcome(self):
        self.stage = "open"

    def finish(self, reason):
        self.stage = "ended"
        self.why = reason

    def lose(self):
        self.stage = "closed"
        self.why = None
        self.drop_bytes()

    def drop_bytes(self):
        """Forgets all bytes that are to be sent."""
        self._data = []
        self._taken = 0

    def send(self, data):
        self._data.extend(data)

    def many_to_send(self):
        return len(self._data) - self._taken

    def take(self, most):
        """Returns the next bytes to be sent, at most so many."""
        data = self._data[self._taken:self._taken + most]
        self._taken += len(data)
        # Not at each call, as many small pieces would cost a copy of all bytes each.
        if 2 * self._taken > len(self._data):
            self._data = self._data[self._taken:]
            self._taken = 0
        return data

    def read(self, data):
        """Returns what Wire.feed does, but without a connection nothing."""
        if self.stage in ("closed", "ended"):
            return [], True
        return self._wire.feed(data)
