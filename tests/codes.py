"""Short ways to write code, to examine and to run it, and to change it at random."""

import unittest

from cardwright.code import Code
from cardwright.errors import BadCode
from cardwright.examiner import examine
from cardwright.machine import run_code
from cardwright.pictures import size_of

DIGIT = ("number", False, 1, 0)
TWO = ("number", False, 2, 0)
SIGNED = ("number", True, 2, 1)
EDITED = ("edited", "z9.9", 2, 1, ".-")
FIELDS = [DIGIT, TWO, SIGNED, EDITED]


def cells_of(pictures, offset=0):
    cells = []
    for picture in pictures:
        cells.append((offset, picture))
        offset += size_of(picture)
    return tuple(cells)


def code_of(instructions, storage=(), constants=(), files=()):
    """Return code of one paragraph; `storage` are the pictures of its fields, `constants` pairs of a picture and a text."""
    return code_of_paragraphs([list(instructions)], storage, constants, files)


def code_of_paragraphs(paragraphs, storage=(), constants=(), files=()):
    """Return code of several paragraphs, to each of which its `leave` is added."""
    size = sum(size_of(picture) for picture in storage)
    cells = cells_of(storage) + cells_of([picture for picture, _ in constants], size)
    starts, rows = [], []
    for at, instructions in enumerate(paragraphs):
        starts.append(len(rows))
        rows.extend(instructions)
        rows.append(("leave", at))
    return Code(files, size, "".join(text for _, text in constants), cells, tuple(starts), tuple(rows))


def is_let_by(code):
    try:
        examine(code)
    except BadCode:
        return False
    return True


def followers(code, place):
    """Return the places to which a place leads, without the way back from a call; calls lead to paragraphs."""
    instruction = code.instructions[place]
    kind = instruction[0]
    if kind == "halt" or (kind == "leave" and place + 1 in code.starts + (code.length(),)):
        return []
    if kind == "jump":
        return [instruction[1]]
    others = [place + 1]
    if kind == "zero":
        others.append(instruction[1])
    if kind == "call":
        others.extend(code.starts[instruction[1]:instruction[2] + 1])
    return others


def has_ring(code, but="step"):
    """Tell if there is a way round, also by calls, that does not come by an instruction of a kind."""
    free = [place for place in range(code.length()) if code.instructions[place][0] != but]
    left = {place: [other for other in followers(code, place) if other in free] for place in free}
    while True:
        ends = [place for place, others in left.items() if not any(other in left for other in others)]
        if not ends:
            return bool(left)
        for place in ends:
            del left[place]


class CodeCase(unittest.TestCase):
    def check_code(self, code, storage, *, steps=100, lines=None, end="end", left=None, memory=None, shown=None, outputs=None):
        """Check that code is let by, and the outcome of its run."""
        examine(code)
        outcome = run_code(code, storage, {} if lines is None else lines, steps)
        self.assertEqual(outcome[0], end, code.instructions)
        for value, found in zip((left, memory, outputs, shown), outcome[1:]):
            if value is not None:
                self.assertEqual(found, value, code.instructions)
        return outcome

    def check_numbers(self, instructions, numbers):
        """Check which numbers lie on the stack, the top first, at the end of instructions that need no memory."""
        rows = list(instructions) + [("show-number", 0), ("show-line",)] * len(numbers)
        self.check_code(code_of(rows), "", shown=tuple(str(number) for number in numbers))


def come_by(code):
    """Return the set of the places that a run can come by, found in another way than the program does."""
    found = set(code.starts[:1])
    while True:
        more = {other for place in found for other in followers(code, place)} - found
        if not more:
            return found
        found |= more


class ShortCase(CodeCase):
    def check_short(self, code):
        """Check what point 803 promises of shortened code."""
        rows = code.instructions
        lasts = [code.region(at)[1] - 1 for at in range(len(code.starts))]
        found = come_by(code)
        entries = {row[1] for row in rows if row[0] in ("jump", "zero")} | set(code.starts)
        for place, row in enumerate(rows):
            self.assertTrue(place in found or place in lasts, (place, rows))
            self.assertNotEqual(row, ("jump", place + 1), rows)
        for place, (row, other) in enumerate(zip(rows, rows[1:])):
            if place + 1 not in entries:
                self.assertFalse(row[0] == other[0] == "step" and row[1] + other[1] <= 10 ** 9, (place, rows))
                self.assertFalse(row[0] == "push" and other[0] in ("drop", "zero", "negate", "test", "trim"), (place, rows))


class Pieces:
    """Makes random code that the examiner lets by, out of pieces that leave the stack as it was."""

    STORAGE = [DIGIT, SIGNED, ("text", 2), DIGIT, DIGIT, DIGIT]
    CONSTANTS = [(("text", 2), "it"), (TWO, "42")]
    FILES = (("input", "f", "r"), ("output", "g", "r"))
    NUMBERS = [0, 0, 1, -1, 7, -123, 10 ** 60, -10 ** 60]

    def __init__(self, random):
        self.random = random

    def pick(self, values):
        return values[self.random.randrange(len(values))]

    def one_number(self):
        return self.pick([("negate",), ("test", self.pick(["=", "<", ">", "<=", ">=", "<>"])), ("trim", self.pick(FIELDS)), ("scale", 1), ("cut", 1), ("round", 2)])

    def number(self):
        """Return rows that push a number."""
        rows = self.pick([[("push", self.pick(self.NUMBERS))], [("push", self.pick(self.NUMBERS))], [("at", 1), ("load", SIGNED)], [("at", 12), ("load", TWO)],
                          [("at", 5), ("at", 7), ("texts", 2, 3)], [("at", 0), ("digits", 1)]])
        while self.random.random() < 0.4:
            rows = rows + [self.one_number()]
        return rows

    def piece(self, paragraphs):
        """Return rows; a jump to "?" leads to any piece of the paragraph, one to a number so many rows further."""
        kind = self.random.randrange(14)
        if kind < 3:
            return [("step", self.pick([1, 1, 2, 10 ** 9, 5 * 10 ** 8]))]
        if kind == 3:
            return self.number() + [("drop",)]
        if kind == 4:
            return self.number() + [("zero", "?")]
        if kind == 5:
            return self.number() + [("show-number", self.pick([0, 2])), ("show-line",)]
        if kind == 6:
            return [("jump", "?")]
        if kind == 7:
            return self.pick([[("halt", "stop")], [("leave", self.random.randrange(paragraphs))], [("jump", 1)]])
        if kind == 8:
            first = self.random.randrange(paragraphs)
            call = ("call", first, self.random.randrange(first, paragraphs))
            return self.pick([[call], [("step", 1), call], [("push", 0), call, ("drop",)]])
        if kind == 9:
            return self.number() + self.pick([[("at", 0), ("keep", DIGIT)], [("at", 1), ("try", SIGNED), ("zero", "?")], [("at", 1), ("keep", SIGNED)]])
        if kind == 10:
            return self.number() + self.number() + [self.pick([("add",), ("subtract",), ("multiply",)]), ("zero", "?")]
        if kind == 11:
            # Two ways that meet with a number on the stack.
            return self.number() + [("zero", 3), ("push", self.pick(self.NUMBERS)), ("jump", 2), ("push", self.pick(self.NUMBERS)), self.one_number(), ("zero", "?")]
        if kind == 12:
            return [("push", 3), ("at", 7), ("index", 0, 1, 0, 3, 1), ("try", DIGIT), ("drop",)]
        return self.pick([[("read", "f", 5, 2, ((0, ("text", 2)),)), ("zero", "?")], [("write", "g", 0, 7)], [("sort", 7, 1, 3, 0, DIGIT, True)],
                          [("at", 10), ("at", 5), ("copy", 2, 2)]])

    def paragraph(self, paragraphs, start):
        pieces = [self.piece(paragraphs) for _ in range(self.random.randrange(9))]
        firsts = []
        at = start
        for piece in pieces:
            firsts.append(at)
            at += len(piece)
        firsts.append(at)
        rows = []
        for piece in pieces:
            for row in piece:
                place = start + len(rows)
                if row[0] in ("jump", "zero"):
                    row = (row[0], self.pick(firsts) if row[1] == "?" else place + row[1])
                rows.append(row)
        return rows

    def code(self):
        many = self.random.randrange(1, 4)
        paragraphs = []
        start = 0
        for _ in range(many):
            paragraphs.append(self.paragraph(many, start))
            start += len(paragraphs[-1]) + 1
        return code_of_paragraphs(paragraphs, self.STORAGE, self.CONSTANTS, self.FILES)


class Changes:
    """Makes code at random out of other code: rows are changed, taken away, doubled and mixed."""

    def __init__(self, random, code):
        self.random = random
        self.code = code
        pictures = sorted(set(code.cells.values()), key=str)
        offsets = sorted(code.cells) + [code.size + len(code.constants)]
        self.values = pictures + offsets + [True, False, None, 0, 1, 2, 3, 4, 9, -1, 10 ** 9, "=", "<", ">", "<>"]

    def pick(self, values):
        return values[self.random.randrange(len(values))]

    def changed_row(self, row):
        at = self.random.randrange(len(row))
        if at == 0:
            return (self.pick(["load", "keep", "try", "add", "drop", "double", "negate", "jump", "zero", "copy", "texts", "digits", "show-text", "step", "at", "push"]),) + row[1:]
        same = [value for value in self.values if isinstance(value, type(row[at]))]
        if isinstance(row[at], int) and not isinstance(row[at], bool):
            same += [row[at] + 1, row[at] - 1, row[at] + 2]
        return row[:at] + (self.pick(same or self.values),) + row[at + 1:]

    def leads_behind(self, row, place):
        return row[0] in ("jump", "zero") and len(row) == 2 and isinstance(row[1], int) and row[1] > place

    def made(self):
        rows = list(self.code.instructions)
        starts = list(self.code.starts)
        for _ in range(self.random.randrange(1, 4)):
            place = self.random.randrange(len(rows))
            kind = self.random.randrange(6)
            if kind < 3:
                rows[place] = self.changed_row(rows[place])
            elif kind == 3:
                rows[place] = self.pick(rows)
            elif kind == 4:
                other = self.random.randrange(len(rows))
                rows[place], rows[other] = rows[other], rows[place]
            else:
                # A row is doubled; what leads behind it goes on leading there.
                rows = [(row[0], row[1] + 1) if self.leads_behind(row, place) else row for row in rows]
                rows.insert(place, rows[place])
                starts = [start + 1 if start > place else start for start in starts]
        return self.code.with_instructions(starts, rows)
