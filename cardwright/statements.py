"""Statements and programs as trees (point 407)."""

from cardwright.limits import MOST_NEST
from cardwright.trees import (
    is_condition, is_entry, is_expression, is_file, is_reference, is_source, is_tuple_of, kind_of,
)
from cardwright.words import is_name

# What the items behind the kind of a statement or of a way are.
STATEMENT_PARTS = {
    "move": ("source", "reference"),
    "set": ("reference", "truth", "expression", "statements"),
    "divide": ("expression", "expression", "reference", "truth", "remainder", "statements"),
    "if": ("condition", "then", "statements"),
    "perform": ("name", "name", "way"),
    "read": ("name", "statements", "statements"),
    "write": ("name",),
    "show": ("sources",),
    "sort": ("name", "name", "truth"),
    "clear": ("reference",),
    "stop": (),
}
WAY_PARTS = {
    "once": (),
    "times": ("many",),
    "until": ("condition",),
    "varying": ("reference", "expression", "expression", "condition"),
}
INNER_PARTS = ("then", "statements")


def is_statement(value):
    return _is_statement_of(value, MOST_NEST)


def is_program(value):
    if not is_tuple_of(value, 4) or not is_name(value[0]):
        return False
    _, entries, files, paragraphs = value
    if not all([isinstance(part, tuple) for part in (entries, files, paragraphs)]):
        return False
    if not all([is_entry(entry) for entry in entries]) or not all([is_file(file) for file in files]):
        return False
    return len(paragraphs) > 0 and all([_is_paragraph(paragraph) for paragraph in paragraphs])


def inner_statements(statement):
    """Return the list of the statements directly within a statement."""
    found = []
    for sort, part in zip(STATEMENT_PARTS[statement[0]], statement[1:]):
        if sort in INNER_PARTS:
            found.extend(part)
    return found


def _is_paragraph(value):
    return is_tuple_of(value, 2) and is_name(value[0]) and _are_statements(value[1], MOST_NEST)


def _is_statement_of(value, levels):
    """Tell if a value is a statement of at most so many levels."""
    kind = kind_of(value)
    if levels == 0 or kind not in STATEMENT_PARTS:
        return False
    return _are_parts(STATEMENT_PARTS[kind], value[1:], levels)


def _is_way(value):
    kind = kind_of(value)
    return kind in WAY_PARTS and _are_parts(WAY_PARTS[kind], value[1:], 1)


def _are_parts(sorts, parts, levels):
    if len(parts) != len(sorts):
        return False
    return all(_is_part(sort, part, levels) for sort, part in zip(sorts, parts))


def _is_part(sort, value, levels):
    if sort in INNER_PARTS:
        return _are_statements(value, levels - 1) and (sort == "statements" or len(value) > 0)
    if sort == "truth":
        return isinstance(value, bool)
    if sort == "remainder":
        return value is None or is_reference(value)
    if sort == "sources":
        return _are_sources(value)
    if sort == "way":
        return _is_way(value)
    if sort == "many":
        return _is_many(value)
    return _is_common_part(sort, value)


def _is_common_part(sort, value):
    if sort == "name":
        return is_name(value)
    if sort == "reference":
        return is_reference(value)
    if sort == "source":
        return is_source(value)
    if sort == "expression":
        return is_expression(value)
    return is_condition(value)


def _is_many(value):
    """Tell if a value is a source that is a reference or a whole number from 0 on."""
    if not is_source(value) or value[0] == "text":
        return False
    if value[0] == "ref":
        return True
    units, scale = value[1]
    return units >= 0 and scale == 0


def _are_sources(value):
    return isinstance(value, tuple) and len(value) > 0 and all([is_source(source) for source in value])


def _are_statements(value, levels):
    return isinstance(value, tuple) and all(_is_statement_of(part, levels) for part in value)
