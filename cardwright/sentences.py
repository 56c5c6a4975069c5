"""Reading statements (points 403 to 406)."""

from cardwright.decimals import power
from cardwright.errors import BadProgram
from cardwright.expressions import read_condition, read_expression, read_reference, read_source
from cardwright.limits import MOST_DIGITS, MOST_NEST
from cardwright.words import are_figures

STATEMENT_WORDS = ("move", "set", "divide", "if", "perform", "read", "write", "show", "sort", "clear", "stop")


def read_statements(cursor, depth):
    """Take as many statements of a level as follow one another; there may be none."""
    statements = []
    while cursor.peek() in STATEMENT_WORDS:
        statements.append(read_statement(cursor, depth=depth))
    return tuple(statements)


def _read_inner(cursor, depth):
    first = read_statement(cursor, depth=depth)
    return (first,) + read_statements(cursor, depth)


def _read_otherwise(cursor, depth):
    if not cursor.accept("else"):
        return ()
    statements = _read_inner(cursor, depth)
    cursor.expect("end")
    return statements


def _read_set(cursor, depth):
    reference = read_reference(cursor)
    is_rounded = cursor.accept("rounded")
    cursor.expect("to")
    expression = read_expression(cursor)
    otherwise = _read_otherwise(cursor, depth)
    cursor.expect(".")
    return "set", reference, is_rounded, expression, otherwise


def _read_divide(cursor, depth):
    above = read_expression(cursor)
    cursor.expect("by")
    below = read_expression(cursor)
    cursor.expect("giving")
    reference = read_reference(cursor)
    is_rounded = cursor.accept("rounded")
    remainder = read_reference(cursor) if cursor.accept("remainder") else None
    otherwise = _read_otherwise(cursor, depth)
    cursor.expect(".")
    return "divide", above, below, reference, is_rounded, remainder, otherwise


def _read_if(cursor, depth):
    condition = read_condition(cursor)
    cursor.expect("then")
    then = _read_inner(cursor, depth)
    otherwise = _read_inner(cursor, depth) if cursor.accept("else") else ()
    cursor.expect("end", ".")
    return "if", condition, then, otherwise


def _read_read(cursor, depth):
    name = cursor.take_name()
    at_end = ()
    if cursor.accept("at"):
        cursor.expect("end")
        at_end = _read_inner(cursor, depth)
    bad = _read_inner(cursor, depth) if cursor.accept("bad") else ()
    cursor.expect("end", ".")
    return "read", name, at_end, bad


def _read_move(cursor):
    source = read_source(cursor)
    cursor.expect("to")
    reference = read_reference(cursor)
    cursor.expect(".")
    return "move", source, reference


def _read_perform(cursor):
    first = cursor.take_name()
    last = cursor.take_name() if cursor.accept("thru") else first
    way = _read_way(cursor)
    cursor.expect(".")
    return "perform", first, last, way


def _read_way(cursor):
    if cursor.peek() == ".":
        return ("once",)
    if cursor.accept("until"):
        return "until", read_condition(cursor)
    if cursor.accept("varying"):
        return _read_varying(cursor)
    if are_figures(cursor.peek()):
        source = ("number", (cursor.take_integer(greatest=power(MOST_DIGITS) - 1), 0))
    else:
        source = ("ref", read_reference(cursor))
    cursor.expect("times")
    return "times", source


def _read_varying(cursor):
    reference = read_reference(cursor)
    cursor.expect("from")
    start = read_expression(cursor)
    cursor.expect("by")
    pace = read_expression(cursor)
    cursor.expect("until")
    return "varying", reference, start, pace, read_condition(cursor)


def _read_write(cursor):
    name = cursor.take_name()
    cursor.expect(".")
    return "write", name


def _read_show(cursor):
    sources = [read_source(cursor)]
    while not cursor.accept("."):
        sources.append(read_source(cursor))
    return "show", tuple(sources)


def _read_sort(cursor):
    table = cursor.take_name()
    cursor.expect("by")
    key = cursor.take_name()
    is_descending = cursor.accept("descending")
    cursor.expect(".")
    return "sort", table, key, is_descending


def _read_clear(cursor):
    reference = read_reference(cursor)
    cursor.expect(".")
    return "clear", reference


def _read_stop(cursor):
    cursor.expect(".")
    return ("stop",)


NESTING_READERS = {"set": _read_set, "divide": _read_divide, "if": _read_if, "read": _read_read}
PLAIN_READERS = {
    "move": _read_move, "perform": _read_perform, "write": _read_write, "show": _read_show, "sort": _read_sort,
    "clear": _read_clear, "stop": _read_stop,
}


def read_statement(cursor, *, depth):
    word = cursor.take_one_of(STATEMENT_WORDS)
    if depth > MOST_NEST:
        raise BadProgram(cursor.row_behind, "depth")
    if word in NESTING_READERS:
        read_nesting = NESTING_READERS[word]
        return read_nesting(cursor, depth + 1)
    read_plain = PLAIN_READERS[word]
    return read_plain(cursor)
