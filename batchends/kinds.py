"""The kinds of values: names, numbers, signs, texts, and the order of keys."""

LETTERS = "abcdefghijklmnopqrstuvwxyz"
LONGEST_NAME = 8
LONGEST_TEXT = 40
LONGEST_STRING = 200
LEAST_NUMBER = -2147483648
GREATEST_NUMBER = 2147483647
PERCENT = 37


def is_sign(character):
    code = ord(character)
    return 32 <= code <= 126 and code != PERCENT


def has_only_signs(string):
    return all([is_sign(character) for character in string])


def may_be_prepared(string):
    return len(string) <= LONGEST_STRING and has_only_signs(string)


def is_name(string):
    return 1 <= len(string) <= LONGEST_NAME and all([letter in LETTERS for letter in string])


def is_text(string):
    return len(string) <= LONGEST_TEXT and "'" not in string and has_only_signs(string)


def is_number(number):
    return LEAST_NUMBER <= number <= GREATEST_NUMBER


def is_integer(thing):
    return isinstance(thing, int) and not isinstance(thing, bool)


def is_value(thing):
    if isinstance(thing, str):
        return is_text(thing)
    return is_integer(thing) and is_number(thing)


def value_order(value):
    """A key for sorting: numbers and texts can't be compared with each other by Python."""
    if isinstance(value, str):
        return (1, value)
    return (0, value)
