"""Reading references, sources, expressions and conditions (points 403 to 406)."""

from cardwright.errors import BadProgram
from cardwright.limits import MOST_DEPTH, MOST_TIMES
from cardwright.tokens import is_numeric
from cardwright.trees import OPERATORS, depth_of
from cardwright.words import are_figures

SUMS = {"+": "plus", "-": "minus"}


def read_reference(cursor):
    name = cursor.take_name()
    subscripts = []
    if cursor.accept("("):
        subscripts.append(_read_subscript(cursor))
        while cursor.accept(","):
            subscripts.append(_read_subscript(cursor))
        cursor.expect(")")
    return name, tuple(subscripts)


def read_source(cursor):
    if cursor.is_at_string():
        return "text", cursor.take_string()
    return _read_number_or_reference(cursor)


def read_expression(cursor):
    return _read_sum(cursor, 0)


def read_condition(cursor):
    return _read_disjunction(cursor, 0)


def _read_subscript(cursor):
    if are_figures(cursor.peek()):
        return "", _take_index(cursor)
    name = cursor.take_name()
    if cursor.accept("+"):
        return name, _take_index(cursor)
    if cursor.accept("-"):
        return name, -_take_index(cursor)
    return name, 0


def _take_index(cursor):
    return cursor.take_integer(least=1, greatest=MOST_TIMES)


def _read_number_or_reference(cursor):
    if is_numeric(cursor.peek()):
        return "number", cursor.take_decimal()
    return "ref", read_reference(cursor)


def _read_sum(cursor, many_open):
    tree = _read_product(cursor, many_open)
    while cursor.peek() in SUMS:
        kind = SUMS[cursor.peek()]
        cursor.expect(cursor.peek())
        tree = _limited(cursor, (kind, tree, _read_product(cursor, many_open)))
    return tree


def _read_product(cursor, many_open):
    tree = _read_factor(cursor, many_open)
    while cursor.accept("*"):
        tree = _limited(cursor, ("times", tree, _read_factor(cursor, many_open)))
    return tree


def _read_factor(cursor, many_open):
    if cursor.peek() not in ("-", "("):
        return _read_number_or_reference(cursor)
    _check_open(cursor, many_open)
    if cursor.accept("-"):
        return _limited(cursor, ("negative", _read_factor(cursor, many_open + 1)))
    cursor.expect("(")
    tree = _read_sum(cursor, many_open + 1)
    cursor.expect(")")
    return tree


def _read_disjunction(cursor, many_open):
    tree = _read_conjunction(cursor, many_open)
    while cursor.accept("or"):
        tree = _limited(cursor, ("or", tree, _read_conjunction(cursor, many_open)))
    return tree


def _read_conjunction(cursor, many_open):
    tree = _read_single(cursor, many_open)
    while cursor.accept("and"):
        tree = _limited(cursor, ("and", tree, _read_single(cursor, many_open)))
    return tree


def _read_single(cursor, many_open):
    if cursor.peek() not in ("not", "["):
        return _read_plain_condition(cursor)
    _check_open(cursor, many_open)
    if cursor.accept("not"):
        return _limited(cursor, ("not", _read_single(cursor, many_open + 1)))
    cursor.expect("[")
    tree = _read_disjunction(cursor, many_open + 1)
    cursor.expect("]")
    return tree


def _read_plain_condition(cursor):
    if cursor.accept("digits"):
        return "digits", read_reference(cursor)
    if cursor.accept("text"):
        first = read_source(cursor)
        operator = cursor.take_one_of(OPERATORS)
        return "texts", operator, first, read_source(cursor)
    first = read_expression(cursor)
    operator = cursor.take_one_of(OPERATORS)
    return "compare", operator, first, read_expression(cursor)


def _check_open(cursor, many_open):
    if many_open == MOST_DEPTH:
        raise BadProgram(cursor.row, "depth")


def _limited(cursor, tree):
    """Return a tree whose last token was just taken, unless it has too many levels."""
    if depth_of(tree) > MOST_DEPTH:
        raise BadProgram(cursor.row_behind, "depth")
    return tree
