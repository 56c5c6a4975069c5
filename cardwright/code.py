"""The code of the machine, and the forms of its instructions (points 701 and 705)."""

from cardwright.errors import BadCode
from cardwright.pictures import is_picture
from cardwright.trees import OPERATORS, is_tuple_of, kind_of
from cardwright.words import is_integer

MOST_NUMBER = 10 ** 60
MOST_SIZE = 10 ** 9
MOST_POWER = 1000

# What the items behind the kind of an instruction are.
FORMS = {
    "step": ("size",), "push": ("number",), "at": ("place",), "index": ("place", "size", "number", "size", "size"),
    "load": ("value picture",), "keep": ("value picture",), "try": ("value picture",), "trim": ("value picture",),
    "scale": ("power",), "cut": ("power",), "round": ("power",), "add": (), "subtract": (), "multiply": (),
    "negate": (), "double": (), "drop": (), "test": ("relation",),
    "divide": ("power", "power", "value picture", "truth", "remainder"),
    "copy": ("size", "size"), "figures": ("value picture", "size"), "texts": ("size", "size"), "digits": ("size",),
    "jump": ("place",), "zero": ("place",), "call": ("place", "place"), "leave": ("place",),
    "read": ("string", "place", "size", "cells"), "write": ("string", "place", "size"),
    "show-number": ("power",), "show-text": ("size",), "show-line": (),
    "sort": ("place", "size", "size", "place", "picture", "truth"), "halt": ("string",),
}


class Code:
    """A program of the machine."""

    def __init__(self, files, size, constants, cells, starts, instructions):
        self.files = files
        self.size = size
        self.constants = constants
        self.cells = dict(cells)
        # The dict keeps only one of two fields at the same offset, which the examiner must hear of.
        self.has_doubles = len(self.cells) < len(cells)
        self.starts = tuple(starts)
        self.instructions = tuple(instructions)

    def length(self):
        return len(self.instructions)

    def region(self, paragraph):
        ends = self.starts[1:] + (self.length(),)
        return self.starts[paragraph], ends[paragraph]

    def with_instructions(self, starts, instructions):
        changed = Code(self.files, self.size, self.constants, self.cells, starts, instructions)
        changed.has_doubles = self.has_doubles
        return changed


def check_forms(code):
    for place, instruction in enumerate(code.instructions):
        kind = kind_of(instruction)
        if kind not in FORMS or len(instruction) != 1 + len(FORMS[kind]):
            raise BadCode(place, "form")
        if not all([_is_item(sort, item) for sort, item in zip(FORMS[kind], instruction[1:])]):
            raise BadCode(place, "item")


def _is_item(sort, value):
    if sort == "number":
        return is_integer(value, -MOST_NUMBER, MOST_NUMBER)
    if sort == "size":
        return is_integer(value, 1, MOST_SIZE)
    if sort == "place":
        return is_integer(value, 0, MOST_SIZE)
    if sort == "power":
        return is_integer(value, 0, MOST_POWER)
    if sort == "truth":
        return isinstance(value, bool)
    if sort == "string":
        return isinstance(value, str)
    if sort == "relation":
        return isinstance(value, str) and value in OPERATORS
    if sort == "cells":
        return isinstance(value, tuple) and all([_is_cell(pair) for pair in value])
    return _is_picture_of(sort, value)


def _is_cell(value):
    return is_tuple_of(value, 2) and is_integer(value[0], 0, MOST_SIZE) and is_picture(value[1])


def _is_picture_of(sort, value):
    if sort == "picture":
        return is_picture(value)
    if sort == "remainder" and value is None:
        return True
    return is_picture(value) and value[0] != "text"
