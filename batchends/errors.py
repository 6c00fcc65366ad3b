"""The errors that Batchends raises."""


class EndError(ValueError):
    """The base class of all errors that Batchends raises."""


class Unreadable(EndError):
    """A string is not a statement."""


class InvalidCommand(EndError):
    """A command that is to be added has an argument that no command has."""


class BatchFull(EndError):
    """The next batch has as many commands as a batch can have."""


class TooManyBatches(EndError):
    """As many batches were handed over as a client can have."""


class NotClosed(EndError):
    """A connection is begun while there is one."""


class NoSuchBatch(EndError):
    """No batch of this number was handed over."""
