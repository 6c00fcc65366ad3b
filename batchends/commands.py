"""Commands that are to be added, and the replies that they may have."""

from batchends.errors import InvalidCommand
from batchends.kinds import is_integer, is_name, is_value, may_be_prepared
from batchends.limits import GREATEST_MOST, MOST_VALUES

REPLIES = {
    "prepare": ("prepared",),
    "bind": ("bound",),
    "run": ("rows", "complete"),
    "forget": ("closed",),
    "close": ("closed",),
}


def check_name(name):
    if not isinstance(name, str) or not is_name(name):
        raise InvalidCommand("a name has 1 to 8 letters from a to z")


def check_string(string):
    if not isinstance(string, str) or not may_be_prepared(string):
        raise InvalidCommand("a string that is prepared has at most 200 signs")


def check_values(values):
    if not isinstance(values, (tuple, list)) or len(values) > MOST_VALUES:
        raise InvalidCommand("there is a tuple of at most 4 values")
    if not all([is_value(value) for value in values]):
        raise InvalidCommand("a value is a number or a text")


def check_most(most):
    if not is_integer(most) or not 0 <= most <= GREATEST_MOST:
        raise InvalidCommand("most is an integer from 0 to 1000")


def fits(command, reply):
    """Whether a command may have this reply."""
    return reply[0] in ("wrong", "skipped") or reply[0] in REPLIES[command[0]]


def copy_reply(reply):
    """Returns a reply that shares no list with this one."""
    if reply[0] == "rows":
        return ("rows", list(reply[1]), reply[2])
    return reply
