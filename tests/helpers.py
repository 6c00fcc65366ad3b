"""What several tests need: short ways to run statements in a session."""

from batchends.sessions import Session


def commands_of(statement, values=(), most=0):
    """The commands that run one statement, whatever was prepared and bound so before."""
    return [
        ("forget", "stm"),
        ("close", "ptl"),
        ("prepare", "stm", statement),
        ("bind", "ptl", "stm", values),
        ("run", "ptl", most),
    ]


def only(session, *command):
    """Runs a batch of one command, and returns its reply."""
    return session.run_batch([command])[1][0]


def tell(session, statement, values=()):
    """Runs one statement in a batch of its own, and returns the reply to its run."""
    return session.run_batch(commands_of(statement, values))[1][4]


def tell_all(session, *statements):
    """Runs statements in one batch, and returns its state and the replies to the runs."""
    commands = [command for statement in statements for command in commands_of(statement)]
    assert len(commands) <= 20, "a batch has at most 20 commands"
    state, replies = session.run_batch(commands)
    return state, replies[4::5]


def state_of(session):
    """The state of the transaction, which an empty batch tells."""
    return session.run_batch([])[0]


def in_transaction(tables=()):
    """A session with a transaction."""
    session = Session(tables)
    assert tell(session, "begin") == ("complete", 0)
    return session


def numbered(many):
    """So many rows with the keys 1, 2, .. and the entries 10, 20, .."""
    return [(n, 10 * n) for n in range(1, many + 1)]
