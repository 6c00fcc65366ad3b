"""Statements: their parts and their parameters."""

from batchends.errors import Unreadable
from batchends.kinds import is_name, is_number, is_text, may_be_prepared

PARAMETERS = ("$1", "$2", "$3", "$4")

# For each word what may follow it: T and N are names, X and Y are terms.
FORMS = {
    "create": ("T",),
    "drop": ("T",),
    "put": ("TXY",),
    "delete": ("TX",),
    "get": ("TX",),
    "scan": ("T", "TXY"),
    "total": ("T",),
    "begin": ("",),
    "commit": ("",),
    "rollback": ("",),
    "save": ("N",),
    "undo": ("N",),
}


def parse_statement(string):
    """Returns the tuple of the parts of a statement, or raises Unreadable."""
    if not isinstance(string, str) or not may_be_prepared(string):
        raise Unreadable("a statement is a string of at most 200 signs")
    word, *pieces = split_pieces(string)
    form = find_form(word, len(pieces))
    parts = (word, *[parse_part(letter, piece) for letter, piece in zip(form, pieces)])
    for n in range(1, parameters(parts)):
        if ("parameter", n) not in parts:
            raise Unreadable(f"the parameter ${n} does not occur")
    return parts


def parameters(parts):
    """Returns how many parameters the statement with these parts has."""
    return max([part[1] for part in parts if is_parameter(part)], default=0)


def fill_parts(parts, values):
    """Returns the parts with the values of their terms in place of the terms."""
    return tuple([fill_part(part, values) for part in parts])


def fill_part(part, values):
    if not isinstance(part, tuple):
        return part
    if is_parameter(part):
        return values[part[1] - 1]
    return part[1]


def is_parameter(part):
    return isinstance(part, (tuple, list)) and part[0] == "parameter"


def split_pieces(string):
    """Splits a string at its spaces, but not at those in texts."""
    pieces = [""]
    in_text = False
    for sign in string:
        if sign == "'":
            in_text = not in_text
        if sign == " " and not in_text:
            pieces.append("")
        else:
            pieces[-1] += sign
    return pieces


def find_form(word, many):
    """Returns the form of the statements with this word that has so many parts behind it."""
    for form in FORMS.get(word, ()):
        if len(form) == many:
            return form
    raise Unreadable("no statement has this word and so many parts")


def parse_part(letter, piece):
    if letter in "TN":
        return parse_name(piece)
    if piece.startswith("'"):
        return parse_text(piece)
    if piece in PARAMETERS:
        return ("parameter", int(piece[1:]))
    return parse_number(piece)


def parse_name(piece):
    if not is_name(piece):
        raise Unreadable("a name has 1 to 8 letters")
    return piece


def parse_text(piece):
    text = piece[1:-1]
    # A single quote is the first and the last sign of its piece, too.
    if len(piece) < 2 or not piece.endswith("'") or not is_text(text):
        raise Unreadable("a text has at most 40 signs between two quotes")
    return ("text", text)


def parse_number(piece):
    digits = piece.removeprefix("-")
    if not digits.isdigit():
        raise Unreadable("a term is a number, a text or a parameter")
    number = int(piece)
    # Leading zeros and -0 are not written so by str.
    if str(number) != piece or not is_number(number):
        raise Unreadable("a number stands between -2147483648 and 2147483647")
    return number
