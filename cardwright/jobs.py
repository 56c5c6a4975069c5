"""Jobs: running a program text (points 900 to 902)."""

from cardwright.checker import check
from cardwright.compiler import compile_program
from cardwright.errors import BadJob
from cardwright.layout import Layout
from cardwright.limits import MOST_LINE, MOST_STEPS
from cardwright.machine import run_code
from cardwright.meaning import run_plain
from cardwright.parsing import parse
from cardwright.shortener import shorten
from cardwright.words import is_integer, is_printable

WAYS = ("plain", "code", "short")


def load(text):
    program = parse(text)
    if check(program) is not None:
        raise BadJob("check")
    return program


def run_job(text, lines, steps, way):
    if way not in WAYS:
        raise BadJob("way")
    program = load(text)
    _check_lines(program, lines)
    if not is_integer(steps, 0, MOST_STEPS):
        raise BadJob("steps")
    if way == "plain":
        return run_plain(program, lines, steps)
    code = compile_program(program)
    if way == "short":
        code = shorten(code)
    return run_code(code, Layout(program[1]).first_storage(), lines, steps)


def report(outcome):
    end, left, storage, outputs, shown = outcome
    rows = [f"end {end}", f"left {left}", f"storage {storage}"]
    for name, lines in outputs:
        rows.extend([f"{name}: {line}" for line in lines])
    rows.extend([f"shown: {line}" for line in shown])
    return rows


def _check_lines(program, lines):
    names = [name for kind, name, _ in program[2] if kind == "input"]
    if not isinstance(lines, dict) or len(lines) != len(names) or not all([name in lines for name in names]):
        raise BadJob("files")
    for name in sorted(names):
        if not isinstance(lines[name], tuple) or not all([_is_line(line) for line in lines[name]]):
            raise BadJob("lines")


def _is_line(value):
    return is_printable(value) and len(value) <= MOST_LINE
