"""The checker: may a program tree run (points 500 to 512)."""

from cardwright.errors import BadData, BadPart
from cardwright.limits import MOST_CALLS
from cardwright.names import Scope
from cardwright.performs import circle, graph_of, ranks
from cardwright.rules import check_statement


def check(program):
    try:
        _check_program(program)
    except (BadData, BadPart) as fault:
        return fault.reason, fault.name
    return None


def _check_program(program):
    scope = Scope(program)
    paragraphs = program[3]
    for _, statements in paragraphs:
        for statement in statements:
            check_statement(scope, statement)
    _check_performs(paragraphs)


def _check_performs(paragraphs):
    graph = graph_of(paragraphs)
    vertices = circle(graph)
    if vertices:
        name, _ = paragraphs[vertices[0]]
        raise BadPart("circle", name)
    for rank, (name, _) in zip(ranks(graph), paragraphs):
        if rank > MOST_CALLS:
            raise BadPart("calls", name)
