"""What several tests use: faults, random trees, and values near a tree that are none."""

import random
import unittest

from cardwright.errors import BadPart, BadProgram
from cardwright.tokens import Cursor


class FaultCase(unittest.TestCase):
    def check_fault(self, line, reason, function, *given, **named):
        with self.assertRaises(BadProgram, msg=(given, named)) as caught:
            function(*given, **named)
        self.assertEqual((caught.exception.line, caught.exception.reason), (line, reason), (given, named))


def on_lines(text):
    """Put each token on a line of its own."""
    return text.replace(" ", "\n")


class ReadCase(FaultCase):
    read = None

    def check_tree(self, text, tree, rest=""):
        for given in [text + " " + rest, on_lines(text) + "\n" + rest]:
            cursor = Cursor(given)
            self.assertEqual(type(self).read(cursor), tree, text)
            self.assertEqual(cursor.peek(), rest.partition(" ")[0], text)

    def check_read_fault(self, text, reason):
        """Check a fault at the last of the words, and that what stands behind them does not matter."""
        behind = ["", "\n\n \n"] if reason == "end" else ["", "\na b", "\n.", "\n)", "\n'it'", "\n99999999999999999999"]
        for more in behind:
            self.check_fault(len(text.split()), reason, type(self).read, Cursor(on_lines(text) + more))

    def check_no_tokens(self):
        for text in ["", " ", "\n \n"]:
            self.check_fault(1, "end", type(self).read, Cursor(text))


def part_fault(function, *given):
    """Return the reason and the name of the BadPart that a call raises, or None."""
    try:
        function(*given)
    except BadPart as fault:
        return fault.reason, fault.name
    return None


# Values that are no tree and no part of one, whatever the place.
ODD_VALUES = [1.0, 2.5, [], {}, b"a", b"", object(), (None,), ((),), ("",), (1,), ("ref",), ("unknown",), ("A", ()), "a\n",
              "\xe4", "", -51, 10 ** 20, ("text", ""), ("number", (10, 1)), (([],),), {"a": 1}, {1}, range(2), len, int]


def spoiled(tree):
    """Yield values that differ from a tree in one place and are no trees, at each place in turn."""
    if isinstance(tree, bool):
        yield int(tree)
        yield str(tree)
        yield None
    elif isinstance(tree, int):
        yield True
        yield float(tree)
        yield str(tree)
        yield None
        yield (tree,)
    elif isinstance(tree, str):
        yield tree + "\n"
        yield tree.encode()
        yield [tree]
        yield (tree,)
    elif isinstance(tree, tuple):
        yield list(tree)
        yield dict(enumerate(tree))
        yield tree + (None,)
        yield tree + ([],)
        if tree and isinstance(tree[0], str):
            yield tree[1:]
            if len(tree) > 1:
                yield tree[:-1]
        for at, part in enumerate(tree):
            for other in list(spoiled(part)):
                yield tree[:at] + (other,) + tree[at + 1:]


NAMES = ["a", "b-1", "c2", "long-name-of-20-chars", "x", "end-of-it", "to-a", "texts", "i"]
NAMES[3] = NAMES[3][:20]
OPERATORS = ["=", "<", ">", "<=", ">=", "<>"]
PICTURES = [None, ("text", 1), ("text", 80), ("number", True, 3, 2), ("number", False, 0, 18), ("number", False, 1, 0),
            ("edited", "zz,zz9.99", 5, 2, ".-"), ("edited", "**9", 3, 0, "cr"), ("edited", "9b0/9", 2, 0, "+")]
STRINGS = ["a", "it's", "''", " ", "a  b", "~!\"(", "x" * 80, "'" * 80, "else", "5"]
DECIMALS = [(0, 0), (5, 0), (-5, 0), (125, 2), (-1, 17), (10 ** 18 - 1, 0), (1 - 10 ** 18, 0), (1, 1), (10 ** 18 - 1, 17)]


class Maker:
    """Makes random trees."""

    def __init__(self, seed):
        self.random = random.Random(seed)

    def pick(self, values):
        return values[self.random.randrange(len(values))]

    def chance(self):
        return self.random.random() < 0.5

    def name(self):
        return self.pick(NAMES)

    def subscript(self):
        if self.chance():
            return ("", self.pick([1, 2, 50]))
        return (self.name(), self.pick([0, 1, -1, 50, -50]))

    def reference(self):
        return (self.name(), tuple(self.subscript() for _ in range(self.pick([0, 0, 0, 1, 2, 3]))))

    def number(self):
        return ("number", self.pick(DECIMALS))

    def source(self):
        return self.pick([("ref", self.reference()), self.number(), ("text", self.pick(STRINGS))])

    def expression(self, levels):
        kind = self.pick(["ref", "number", "negative", "plus", "minus", "times", "plus", "minus", "times"])
        if levels == 1 or kind in ("ref", "number"):
            return ("ref", self.reference()) if self.chance() else self.number()
        many = 1 if kind == "negative" else 2
        return (kind,) + tuple(self.expression(levels - 1) for _ in range(many))

    def condition(self, levels):
        kind = self.pick(["compare", "texts", "digits", "not", "and", "or", "and", "or", "not"])
        if levels > 1 and kind == "not":
            return ("not", self.condition(levels - 1))
        if levels > 1 and kind in ("and", "or"):
            return (kind, self.condition(levels - 1), self.condition(levels - 1))
        if kind == "digits":
            return ("digits", self.reference())
        if kind == "texts":
            return ("texts", self.pick(OPERATORS), self.source(), self.source())
        return ("compare", self.pick(OPERATORS), self.expression(3), self.expression(2))

    def way(self):
        return self.pick([
            ("once",), ("times", ("ref", self.reference())), ("times", ("number", (self.pick([0, 7, 10 ** 18 - 1]), 0))),
            ("until", self.condition(3)),
            ("varying", self.reference(), self.expression(2), self.expression(2), self.condition(2))])

    def statements(self, levels, least):
        if levels == 0:
            return ()
        return tuple(self.statement(levels) for _ in range(max(least, self.pick([0, 0, 1, 2]))))

    def statement(self, levels):
        kind = self.pick(["move", "set", "divide", "if", "perform", "read", "write", "show", "sort", "clear", "stop"])
        if levels == 1 and kind == "if":
            kind = "set"
        return (kind,) + self.parts(kind, levels - 1)

    def parts(self, kind, inner):
        if kind == "move":
            return (self.source(), self.reference())
        if kind == "set":
            return (self.reference(), self.chance(), self.expression(5), self.statements(inner, 0))
        if kind == "divide":
            remainder = self.reference() if self.chance() else None
            return (self.expression(2), self.expression(2), self.reference(), self.chance(), remainder, self.statements(inner, 0))
        if kind == "if":
            return (self.condition(4), self.statements(inner, 1), self.statements(inner, 0))
        if kind == "perform":
            first = self.name()
            return (first, first if self.chance() else self.name(), self.way())
        if kind == "read":
            return (self.name(), self.statements(inner, 0), self.statements(inner, 0))
        if kind == "show":
            return (tuple(self.source() for _ in range(self.pick([1, 1, 2, 3]))),)
        return {"write": (self.name(),), "sort": (self.name(), self.name(), self.chance()), "clear": (self.reference(),),
                "stop": ()}[kind]

    def entry(self):
        value = self.pick([None, self.pick(STRINGS), self.pick(DECIMALS)])
        return (self.pick([1, 5, 49]), self.name(), self.pick(PICTURES), self.pick([0, 0, 1, 50]), value)

    def file(self):
        return (self.pick(["input", "output"]), self.name(), self.name())

    def program(self, levels=4):
        entries = tuple(self.entry() for _ in range(self.pick([0, 1, 3])))
        files = tuple(self.file() for _ in range(self.pick([0, 1, 2])))
        paragraphs = tuple((self.name(), self.statements(levels, 0)) for _ in range(self.pick([1, 2, 3])))
        return (self.name(), entries, files, paragraphs)
