"""Integers, printable strings, figures and names (points 100 and 103)."""

from cardwright.limits import MOST_NAME

RESERVED = (
    "program", "data", "files", "procedure", "picture", "occurs", "value", "input", "output", "record",
    "move", "to", "set", "rounded", "else", "end", "divide", "by", "giving", "remainder",
    "if", "then", "perform", "thru", "times", "until", "varying", "from", "read", "at",
    "bad", "write", "show", "sort", "descending", "clear", "stop", "not", "and", "or",
    "digits", "text",
)

FIGURES = "0123456789"
LETTERS = "abcdefghijklmnopqrstuvwxyz"

FIRST_PRINTABLE = 32
LAST_PRINTABLE = 126
NOT_PRINTABLE = 37


def is_integer(value, least, greatest):
    # True and False are of the class int, but the document counts them out.
    if not isinstance(value, int) or isinstance(value, bool):
        return False
    return least <= value <= greatest


def is_printable(value):
    if not isinstance(value, str):
        return False
    codes = [ord(character) for character in value]
    return all(FIRST_PRINTABLE <= code <= LAST_PRINTABLE and code != NOT_PRINTABLE for code in codes)


def are_figures(value):
    return isinstance(value, str) and value != "" and _has_only(value, FIGURES)


def is_name(value):
    if not isinstance(value, str) or not 1 <= len(value) <= MOST_NAME:
        return False
    if value[0] not in LETTERS or value[-1] == "-" or value in RESERVED:
        return False
    return _has_only(value, LETTERS + FIGURES + "-")


def _has_only(text, characters):
    return all(character in characters for character in text)
