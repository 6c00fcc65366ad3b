"""The fields of messages: how each kind of them is written in bytes, and read from a body."""

from batchends.bodies import NoMessage
from batchends.kinds import GREATEST_NUMBER, LETTERS, is_name, is_text, may_be_prepared
from batchends.limits import GREATEST_MOST, MOST_VALUES
from batchends.stores import MOST_ROWS

STATES = ("none", "open", "failed")
GREATEST_LONG = 4294967295
# What is added to a number below 0.
LONG_RANGE = 4294967296
LONGEST_REASON = 20


def number_bytes(number, size):
    """Returns the lowest bytes of a number, so many of them, the highest one first."""
    return [(number >> (8 * place)) & 255 for place in reversed(range(size))]


def write_byte(number):
    return number_bytes(number, 1)


def write_short(number):
    return number_bytes(number, 2)


def write_long(number):
    return number_bytes(number, 4)


def write_flag(flag):
    return [1] if flag else [0]


def write_state(state):
    return write_byte(STATES.index(state))


def write_string(string):
    return [*write_byte(len(string)), *[ord(character) for character in string]]


def write_value(value):
    if isinstance(value, str):
        return [1, *write_string(value)]
    return [0, *write_long(value)]


def write_values(values):
    data = write_byte(len(values))
    for value in values:
        data.extend(write_value(value))
    return data


def write_rows(rows):
    data = write_byte(len(rows))
    for row in rows:
        data.extend(write_values(row))
    return data


def read_long(body):
    return body.number(4, GREATEST_LONG)


def read_most(body):
    return body.number(2, GREATEST_MOST)


def read_parameters(body):
    return body.number(1, MOST_VALUES)


def read_count(body):
    return body.number(1, MOST_ROWS)


def read_flag(body):
    return body.number(1, 1) == 1


def read_state(body):
    return STATES[body.number(1, len(STATES) - 1)]


def read_name(body):
    name = body.string()
    if not is_name(name):
        raise NoMessage("a string is no name")
    return name


def read_statement(body):
    string = body.string()
    if not may_be_prepared(string):
        raise NoMessage("a string is too long to be prepared")
    return string


def read_reason(body):
    reason = body.string()
    fits = all([character == " " or character in LETTERS for character in reason])
    if not fits or not 1 <= len(reason) <= LONGEST_REASON:
        raise NoMessage("a string is no reason")
    return reason


def read_text(body):
    text = body.string()
    if not is_text(text):
        raise NoMessage("a string is no text")
    return text


def read_number(body):
    number = read_long(body)
    return number if number <= GREATEST_NUMBER else number - LONG_RANGE


def read_value(body):
    return read_text(body) if read_flag(body) else read_number(body)


def read_values(body):
    many = body.number(1, MOST_VALUES)
    return tuple([read_value(body) for _ in range(many)])


def read_row(body):
    row = read_values(body)
    if not 1 <= len(row) <= 2:
        raise NoMessage("a row has 1 or 2 values")
    return row


def read_rows(body):
    many = read_count(body)
    return [read_row(body) for _ in range(many)]


WRITERS = {
    "long": write_long,
    "most": write_short,
    "parameters": write_byte,
    "count": write_byte,
    "flag": write_flag,
    "state": write_state,
    "name": write_string,
    "statement": write_string,
    "reason": write_string,
    "values": write_values,
    "rows": write_rows,
}

READERS = {
    "long": read_long,
    "most": read_most,
    "parameters": read_parameters,
    "count": read_count,
    "flag": read_flag,
    "state": read_state,
    "name": read_name,
    "statement": read_statement,
    "reason": read_reason,
    "values": read_values,
    "rows": read_rows,
}
