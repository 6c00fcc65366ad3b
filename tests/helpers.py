"""What several tests need: short ways to run statements in a session, and to write bytes.

The bytes are written here without the program, so that the tests hold it against something.
"""

from batchends.sessions import Session


def commands_of(statement, values=(), most=0):
    """The commands that run one statement, whatever was prepared and bound so before."""
    return [
        ("forget", "stm"),
        ("close", "ptl"),
        ("prepare", "stm", statement),
        ("bind", "ptl", "stm", values),
        ("run", "ptl", most),
    ]


def only(session, *command):
    """Runs a batch of one command, and returns its reply."""
    return session.run_batch([command])[1][0]


def tell(session, statement, values=()):
    """Runs one statement in a batch of its own, and returns the reply to its run."""
    return session.run_batch(commands_of(statement, values))[1][4]


def tell_all(session, *statements):
    """Runs statements in one batch, and returns its state and the replies to the runs."""
    commands = [command for statement in statements for command in commands_of(statement)]
    assert len(commands) <= 20, "a batch has at most 20 commands"
    state, replies = session.run_batch(commands)
    return state, replies[4::5]


def state_of(session):
    """The state of the transaction, which an empty batch tells."""
    return session.run_batch([])[0]


def in_transaction(tables=()):
    """A session with a transaction."""
    session = Session(tables)
    assert tell(session, "begin") == ("complete", 0)
    return session


def numbered(many):
    """So many rows with the keys 1, 2, .. and the entries 10, 20, .."""
    return [(n, 10 * n) for n in range(1, many + 1)]


def as_lists(thing):
    """The same with lists for all tuples."""
    if isinstance(thing, (list, tuple)):
        return [as_lists(part) for part in thing]
    return thing


def as_tuples(thing):
    """The same with tuples for all lists."""
    if isinstance(thing, (list, tuple)):
        return tuple([as_tuples(part) for part in thing])
    return thing


def long(number):
    """A number in 4 bytes."""
    return list(number.to_bytes(4, "big", signed=number < 0))


def string(text):
    """A string in bytes, whatever its characters are."""
    return [len(text), *text.encode("latin-1")]


def value(thing):
    return [1, *string(thing)] if isinstance(thing, str) else [0, *long(thing)]


def values(*things):
    return [len(things), *[byte for thing in things for byte in value(thing)]]


def packed(kind, *parts):
    """A message of this kind, whose body has these parts."""
    body = [byte for part in parts for byte in part]
    return [kind, *len(body).to_bytes(2, "big"), *body]


def hello(session, received):
    return packed(1, long(session), long(received))


def sync(batch, received):
    return packed(7, long(batch), long(received))


def welcome(session, done):
    return packed(1, long(session), long(done))


def refused(word):
    return packed(2, string(word))


def ready(batch, state):
    return packed(3, long(batch), [("none", "open", "failed").index(state)])


def pieces(data, size):
    """The bytes in pieces of this size."""
    return [data[at:at + size] for at in range(0, len(data), size)]
