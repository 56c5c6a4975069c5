"""Checking statements (points 508 to 510)."""

from cardwright.errors import BadPart
from cardwright.kinds import (
    check_condition, check_expression, check_number, check_reference, check_source, check_target,
)
from cardwright.moves import can_move
from cardwright.statements import inner_statements


def end_of_move(layout, source):
    """Return a source of a move as can_move takes it: a picture, a group with its shape, or a mere kind."""
    kind, content = source
    if kind == "number":
        return ("decimal",)
    if kind == "text":
        return ("string",)
    picture = layout.item(content[0]).picture
    return ("group", layout.shape(content[0])) if picture is None else picture


def _check_move(scope, statement):
    _, source, reference = statement
    check_source(scope, source)
    check_reference(scope, reference)
    layout = scope.layout
    if not can_move(end_of_move(layout, source), end_of_move(layout, ("ref", reference))):
        raise BadPart("move", reference[0])


def _check_set(scope, statement):
    check_target(scope, statement[1])
    check_expression(scope, statement[3])


def _check_divide(scope, statement):
    _, above, below, reference, _, remainder, _ = statement
    check_expression(scope, above)
    check_expression(scope, below)
    check_target(scope, reference)
    if remainder is not None:
        check_target(scope, remainder)


def _check_if(scope, statement):
    check_condition(scope, statement[1])


def _check_perform(scope, statement):
    _, first, last, way = statement
    place = scope.place_of(first)
    if scope.place_of(last) < place:
        raise BadPart("order", last)
    if place == 0:
        raise BadPart("main", first)
    _check_way(scope, way)


def _check_way(scope, way):
    kind = way[0]
    if kind == "times" and way[1][0] == "ref":
        check_number(scope, way[1][1])
    elif kind == "until":
        check_condition(scope, way[1])
    elif kind == "varying":
        check_number(scope, way[1])
        check_expression(scope, way[2])
        check_expression(scope, way[3])
        check_condition(scope, way[4])


def _check_read(scope, statement):
    scope.check_file(statement[1], "input")


def _check_write(scope, statement):
    scope.check_file(statement[1], "output")


def _check_show(scope, statement):
    for source in statement[1]:
        check_source(scope, source)


def _check_sort(scope, statement):
    _, table, key, _ = statement
    scope.check_item(table)
    if not scope.is_table(table):
        raise BadPart("table", table)
    scope.check_item(key)
    if scope.layout.kind(key) == "group" or not scope.is_within(key, table) or len(scope.layout.dims(key)) != 1:
        raise BadPart("key", key)


def _check_clear(scope, statement):
    check_reference(scope, statement[1])


CHECKS = {
    "move": _check_move, "set": _check_set, "divide": _check_divide, "if": _check_if, "perform": _check_perform,
    "read": _check_read, "write": _check_write, "show": _check_show, "sort": _check_sort, "clear": _check_clear,
}


def check_statement(scope, statement):
    # There is nothing to check in a stop.
    if statement[0] in CHECKS:
        check_parts = CHECKS[statement[0]]
        check_parts(scope, statement)
    for inner in inner_statements(statement):
        check_statement(scope, inner)
