"""Messages in bytes: they are written by functions, and read by wires."""

from batchends.bodies import Body, NoMessage
from batchends.fields import READERS, WRITERS, number_bytes

LONGEST_BODY = 4000
HEAD = 3

# The word of each message and its fields, in the order of their bytes. The first kind is 1.
CLIENT_FORMS = (
    ("hello", "long", "long"),
    ("prepare", "name", "statement"),
    ("bind", "name", "name", "values"),
    ("run", "name", "most"),
    ("forget", "name"),
    ("close", "name"),
    ("sync", "long", "long"),
)
SERVER_FORMS = (
    ("welcome", "long", "long"),
    ("refused", "name"),
    ("ready", "long", "state"),
    ("prepared", "parameters"),
    ("bound",),
    ("closed",),
    ("skipped",),
    ("rows", "flag", "rows"),
    ("complete", "count"),
    ("wrong", "reason"),
)


def client_bytes(message):
    """Returns the bytes of a message of a client."""
    return message_bytes(CLIENT_FORMS, message)


def server_bytes(message):
    """Returns the bytes of a message of a server."""
    return message_bytes(SERVER_FORMS, message)


class Wire:
    """Reads the messages that come from a side: client or server."""

    def __init__(self, side):
        self._forms = CLIENT_FORMS if side == "client" else SERVER_FORMS
        self._data = []
        self._broken = False

    def feed(self, data):
        """Returns the messages that are complete now, and False if no message follows them."""
        if self._broken:
            return [], False
        self._data.extend(data)
        messages = []
        at = 0
        try:
            while (end := message_end(self._data, at)) <= len(self._data):
                messages.append(read_message(self._forms, self._data[at:end]))
                at = end
        except NoMessage:
            self._broken = True
        self._data = self._data[at:]
        return messages, not self._broken


def message_bytes(forms, message):
    word, *fields = message
    kind = [form[0] for form in forms].index(word) + 1
    names = forms[kind - 1][1:]
    body = []
    for name, field in zip(names, swap_rows(word, fields)):
        write = WRITERS[name]
        body.extend(write(field))
    return [kind, *number_bytes(len(body), 2), *body]


def message_end(data, at):
    """Returns where the message that begins here ends, as far as it can be told."""
    if at + HEAD > len(data):
        return at + HEAD
    length = data[at + 1] * 256 + data[at + 2]
    if length > LONGEST_BODY:
        raise NoMessage("the body is too long")
    return at + HEAD + length


def read_message(forms, data):
    """Returns the message that these bytes are, or raises NoMessage."""
    kind = data[0]
    if not 1 <= kind <= len(forms):
        raise NoMessage("there is no such kind")
    word, *names = forms[kind - 1]
    body = Body(data[HEAD:])
    fields = []
    for name in names:
        read = READERS[name]
        fields.append(read(body))
    body.finish()
    return (word, *swap_rows(word, fields))


def swap_rows(word, fields):
    """Rows and whether there are more have another order in bytes than in tuples."""
    return fields[::-1] if word == "rows" else fields
