"""The bodies of messages that have arrived, which are read from their beginning to their end."""

from batchends.errors import EndError

FIRST_CODE = 32
LAST_CODE = 126
# The character with the code 37 is no sign. A line feed, which is none either, holds its place.
SIGNS = (
    " !\"#$\n&'()*+,-./0123456789:;<=>?"
    "@ABCDEFGHIJKLMNOPQRSTUVWXYZ[\\]^_"
    "`abcdefghijklmnopqrstuvwxyz{|}~"
)


class NoMessage(EndError):
    """Bytes that have arrived are no message."""


class Body:
    """A body, and how far it was read."""

    def __init__(self, data):
        self._data = data
        self._at = 0

    def number(self, size, greatest):
        """Reads a number in so many bytes that is at most the greatest one."""
        end = self._at + size
        if end > len(self._data):
            raise NoMessage("the body is too short")
        number = 0
        for byte in self._data[self._at:end]:
            number = number * 256 + byte
        if number > greatest:
            raise NoMessage("a number is too great")
        self._at = end
        return number

    def string(self):
        """Reads a string; whether it is valid in its place is for the caller to tell."""
        length = self.number(1, 255)
        return "".join([sign_of(self.number(1, 255)) for _ in range(length)])

    def finish(self):
        if self._at < len(self._data):
            raise NoMessage("the body is too long")


def sign_of(code):
    if not FIRST_CODE <= code <= LAST_CODE:
        raise NoMessage("a character is no sign")
    return SIGNS[code - FIRST_CODE]
