"""Entries, references, sources, expressions and conditions as trees (points 406 and 407)."""

from cardwright.decimals import fits, normal
from cardwright.limits import MOST_DEPTH, MOST_DIGITS, MOST_LEVEL, MOST_TEXT, MOST_TIMES
from cardwright.pictures import is_picture
from cardwright.words import is_integer, is_name, is_printable

OPERATORS = ("=", "<", ">", "<=", ">=", "<>")
FILE_KINDS = ("input", "output")

# The kinds of expressions and conditions that are made of others of the same sort, and how many they have.
EXPRESSION_KINDS = ("negative", "plus", "minus", "times")
CONDITION_KINDS = ("not", "and", "or")
MANY_PARTS = {"negative": 1, "plus": 2, "minus": 2, "times": 2, "not": 1, "and": 2, "or": 2}


def depth_of(tree):
    parts = tree[1:] if tree[0] in MANY_PARTS else ()
    return 1 + max([depth_of(part) for part in parts], default=0)


def is_expression(value):
    return _is_built(value, EXPRESSION_KINDS, _is_plain_expression, MOST_DEPTH)


def is_condition(value):
    return _is_built(value, CONDITION_KINDS, _is_plain_condition, MOST_DEPTH)


def is_source(value):
    kind = kind_of(value)
    if kind == "" or len(value) != 2:
        return False
    if kind == "ref":
        return is_reference(value[1])
    if kind == "number":
        return _can_be_written(value[1])
    return kind == "text" and _is_text(value[1])


def is_reference(value):
    if not is_tuple_of(value, 2):
        return False
    name, subscripts = value
    if not is_name(name) or not isinstance(subscripts, tuple):
        return False
    return all([_is_subscript(subscript) for subscript in subscripts])


def is_entry(value):
    if not is_tuple_of(value, 5):
        return False
    level, name, picture, times, content = value
    if not is_integer(level, 1, MOST_LEVEL) or not is_name(name) or not is_integer(times, 0, MOST_TIMES):
        return False
    if picture is not None and not is_picture(picture):
        return False
    return content is None or _is_text(content) or _can_be_written(content)


def is_file(value):
    if kind_of(value) not in FILE_KINDS or len(value) != 3:
        return False
    return is_name(value[1]) and is_name(value[2])


def is_tuple_of(value, many):
    return isinstance(value, tuple) and len(value) == many


def kind_of(value):
    """Return the kind of a tree, or the empty string for a value that is none; for any value."""
    if not isinstance(value, tuple) or len(value) == 0 or not isinstance(value[0], str):
        return ""
    return value[0]


def _is_built(value, kinds, is_plain, levels):
    """Tell if a value has at most so many levels, made of the kinds over plain values."""
    if levels == 0:
        return False
    kind = kind_of(value)
    if kind not in kinds:
        return kind != "" and is_plain(value)
    parts = value[1:]
    return len(parts) == MANY_PARTS[kind] and all(_is_built(part, kinds, is_plain, levels - 1) for part in parts)


def _is_plain_expression(value):
    return value[0] != "text" and is_source(value)


def _is_plain_condition(value):
    if value[0] == "digits":
        return len(value) == 2 and is_reference(value[1])
    if len(value) != 4 or not isinstance(value[1], str) or value[1] not in OPERATORS:
        return False
    if value[0] == "compare":
        return is_expression(value[2]) and is_expression(value[3])
    return value[0] == "texts" and is_source(value[2]) and is_source(value[3])


def _is_subscript(value):
    if not is_tuple_of(value, 2):
        return False
    name, number = value
    if isinstance(name, str) and name == "":
        return is_integer(number, 1, MOST_TIMES)
    return is_name(name) and is_integer(number, -MOST_TIMES, MOST_TIMES)


def _is_text(value):
    return is_printable(value) and 1 <= len(value) <= MOST_TEXT


def _can_be_written(value):
    """Tell if a value is a decimal with a text of at most MOST_DIGITS figures."""
    if not is_tuple_of(value, 2):
        return False
    units, scale = value
    # One figure at least stands ahead of the point.
    if not is_integer(scale, 0, MOST_DIGITS - 1) or not isinstance(units, int) or isinstance(units, bool):
        return False
    return fits(units, MOST_DIGITS) and normal(units, scale) == value
