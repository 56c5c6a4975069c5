"""The machine that runs code (points 702 and 703)."""

from cardwright.decimals import normal, power, quotient, show
from cardwright.editing import reading, suits, trimmed, written
from cardwright.errors import Halt
from cardwright.files import Files
from cardwright.meaning import compare_texts, order_of, quotient_texts, sorted_rows
from cardwright.moves import figures_of, padded
from cardwright.pictures import size_of
from cardwright.storage import Storage
from cardwright.words import are_figures

READ_KINDS = {"line": 0, "bad": 1, "end": 2}


class Machine:
    """What a run of code has: its memory, stack, frames and files, the steps that are left, and its place."""

    def __init__(self, code, storage, lines, steps):
        self.code = code
        self.memory = Storage(storage + code.constants)
        self.files = Files(code.files, lines)
        self.left = steps
        self.place = 0
        # The line that is made by the instructions that show something.
        self.line = ""
        self._stack = []
        # Each frame has a paragraph, and the place where the run goes on behind it.
        self._frames = [(0, code.length())]

    def push(self, value):
        self._stack.append(value)

    def take(self):
        return self._stack.pop()

    def call(self, first, last):
        self._frames.append((last, self.place))
        self.place = self.code.starts[first]

    def leave(self, paragraph):
        if self._frames[-1][0] == paragraph:
            _, self.place = self._frames.pop()

    def write_units(self, picture, offset, units):
        self.memory.write(offset, written(picture, units))

    def outcome(self, end):
        storage = self.memory.read(0, self.code.size)
        return end, self.left, storage, self.files.outputs(), tuple(self.files.shown)


def run_code(code, storage, lines, steps):
    machine = Machine(code, storage, lines, steps)
    try:
        _run(machine)
    except Halt as halt:
        return machine.outcome(halt.end)
    return machine.outcome("end")


def _step(machine, many):
    if machine.left < many:
        machine.left = 0
        raise Halt("steps")
    machine.left = machine.left - many


def _push(machine, value):
    machine.push(value)


def _index(machine, offset, digits, shift, times, size):
    index = int(machine.memory.read(offset, digits)) + shift
    if not 1 <= index <= times:
        raise Halt("index")
    machine.push(machine.take() + (index - 1) * size)


def _load(machine, picture):
    machine.push(reading(picture, machine.memory.read(machine.take(), size_of(picture))))


def _keep(machine, picture):
    offset = machine.take()
    machine.write_units(picture, offset, trimmed(picture, machine.take()))


def _try(machine, picture):
    offset = machine.take()
    units = machine.take()
    if suits(picture, units):
        machine.write_units(picture, offset, units)
        machine.push(1)
    else:
        machine.push(0)


def _trim(machine, picture):
    machine.push(trimmed(picture, machine.take()))


def _scale(machine, exponent):
    machine.push(machine.take() * power(exponent))


def _cut(machine, exponent):
    machine.push(quotient(machine.take(), power(exponent), False))


def _round(machine, exponent):
    machine.push(quotient(machine.take(), power(exponent), True))


def _add(machine):
    second = machine.take()
    machine.push(machine.take() + second)


def _subtract(machine):
    second = machine.take()
    machine.push(machine.take() - second)


def _multiply(machine):
    second = machine.take()
    machine.push(machine.take() * second)


def _negate(machine):
    machine.push(-machine.take())


def _double(machine):
    value = machine.take()
    machine.push(value)
    machine.push(value)


def _drop(machine):
    machine.take()


def _test(machine, op):
    machine.push(1 if order_of(op, machine.take()) else 0)


def _divide(machine, first, second, picture, is_rounded, remainder):
    pictures = [picture] if remainder is None else [picture, remainder]
    # The remainder's address lies on that of the quotient.
    offsets = list(reversed([machine.take() for _ in pictures]))
    b = normal(machine.take(), second)
    a = normal(machine.take(), first)
    texts = quotient_texts(a, b, pictures, is_rounded)
    if None in texts:
        machine.push(0)
        return
    for offset, text in zip(offsets, texts):
        machine.memory.write(offset, text)
    machine.push(1)


def _copy(machine, size, room):
    target = machine.take()
    machine.memory.write(target, padded(machine.memory.read(machine.take(), size), room))


def _figures(machine, picture, room):
    target = machine.take()
    text = machine.memory.read(machine.take(), size_of(picture))
    machine.memory.write(target, padded(figures_of(picture, text), room))


def _texts(machine, size, other):
    second = machine.memory.read(machine.take(), other)
    machine.push(compare_texts(machine.memory.read(machine.take(), size), second))


def _digits(machine, size):
    machine.push(1 if are_figures(machine.memory.read(machine.take(), size)) else 0)


def _jump(machine, place):
    machine.place = place


def _zero(machine, place):
    if machine.take() == 0:
        machine.place = place


def _call(machine, first, last):
    machine.call(first, last)


def _leave(machine, paragraph):
    machine.leave(paragraph)


def _read(machine, name, offset, size, cells):
    kind, text = machine.files.read(name, size, cells)
    if kind == "line":
        machine.memory.write(offset, text)
    machine.push(READ_KINDS[kind])


def _write(machine, name, offset, size):
    machine.files.write(name, machine.memory.read(offset, size))


def _show_number(machine, scale):
    machine.line = machine.line + show(normal(machine.take(), scale))


def _show_text(machine, size):
    machine.line = machine.line + machine.memory.read(machine.take(), size)


def _show_line(machine):
    machine.files.show(machine.line)
    machine.line = ""


def _sort(machine, offset, size, times, key, picture, is_descending):
    rows = [machine.memory.read(offset + at * size, size) for at in range(times)]
    machine.memory.write(offset, "".join(sorted_rows(rows, key, picture, is_descending)))


def _halt(machine, end):
    raise Halt(end)


EFFECTS = {
    "step": _step, "push": _push, "at": _push, "index": _index, "load": _load, "keep": _keep, "try": _try,
    "trim": _trim, "scale": _scale, "cut": _cut, "round": _round, "add": _add, "subtract": _subtract,
    "multiply": _multiply, "negate": _negate, "double": _double, "drop": _drop, "test": _test,
    "divide": _divide, "copy": _copy, "figures": _figures, "texts": _texts, "digits": _digits, "jump": _jump,
    "zero": _zero, "call": _call, "leave": _leave, "read": _read, "write": _write,
    "show-number": _show_number, "show-text": _show_text, "show-line": _show_line, "sort": _sort,
    "halt": _halt,
}


def _run(machine):
    instructions = machine.code.instructions
    while machine.place < len(instructions):
        instruction = instructions[machine.place]
        machine.place = machine.place + 1
        effect = EFFECTS[instruction[0]]
        items = instruction[1:]
        effect(machine, *items)
