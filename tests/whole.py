"""Makes random programs that the checker lets by, and lines for them."""

import random

from cardwright.checker import check
from cardwright.layout import Layout
from cardwright.names import Scope
from cardwright.parsing import parse
from cardwright.rules import check_statement
from support import part_fault

HEADS = [
    """program p . data .
    01 row . 05 code picture x(3) . 05 amount picture s99v9 value -1.5 . 05 part occurs 3 . 10 cell picture 9 occurs 2 value 4 .
      10 word picture x(2) value 'w' . 10 price picture z9.9- .
    01 tab . 05 entry picture s9 occurs 4 value -2 . 05 names picture x(2) occurs 3 . 05 edits picture zz9 occurs 2 .
    01 i picture 9 value 1 . 01 j picture 99 value 2 . 01 total picture s9(4)v99 . 01 tiny picture v9(3) . 01 edit picture **9.99cr .
    01 line picture x(9) . 01 twin . 05 c1 picture 9 . 05 c2 picture 9 . 05 c3 picture x(2) . 05 c4 picture z9.9- .
    files . input f record row . input h record twin . output g record row . output k record line . procedure . main .""",
    """program p . data .
    01 line picture x(5) value 'it''s' .
    01 deep . 05 outer occurs 2 . 10 name picture x . 10 inner occurs 3 . 15 left picture 9v9 . 15 right picture s9 value 3 . 10 tail picture z9 value 5 .
    01 n picture s9(3) . 01 i picture 9 value 2 . 01 m picture 9(18) . 01 d picture s9(5)v9(3) . 01 e picture zzz,zz9.99- . 01 w picture x(2) .
    files . output g record deep . input f record line . output k record line . procedure . main .""",
    "program p . data . 01 i picture 9 . 01 n picture s9v9 . files . procedure . main .",
    "program p . data . 01 g . 05 t occurs 3 . 10 k picture x value 'k' . 10 v picture 99 value 7 . 01 x1 picture 9 value 3 . files . input f record g . procedure . main .",
]
RELATIONS = ["=", "<", ">", "<=", ">=", "<>"]


class Programs:
    """Makes random programs over one of the heads."""

    def __init__(self, seed, head):
        self.random = random.Random(seed)
        self.name, self.entries, self.files, _ = parse(head)
        self.layout = Layout(self.entries)
        self.items = self.layout.names()
        numbers = [name for name in self.items if self.layout.kind(name) == "number"]
        self.numbers = numbers
        self.fields = [name for name in numbers if self.layout.item(name).picture[1] is False and self.layout.item(name).picture[3] == 0
                       and self.layout.dims(name) == ()]
        self.many = self.random.randrange(1, 6)
        self.paragraph_names = ["main"] + [f"p-{at}" for at in range(1, self.many)]

    def pick(self, values):
        return values[self.random.randrange(len(values))]

    def chance(self, percent):
        return self.random.randrange(100) < percent

    def subscript(self, times):
        if self.fields and self.chance(50):
            return (self.pick(self.fields), self.pick([0, 0, 0, 0, 0, 1, 1, -1, 2]))
        return ("", self.random.randrange(1, times + 1))

    def reference(self, names=None):
        name = self.pick(names or self.items)
        return (name, tuple(self.subscript(times) for times, _ in self.layout.dims(name)))

    def decimal(self):
        return self.pick([(0, 0), (1, 0), (2, 0), (-3, 0), (5, 1), (-125, 2), (99, 0), (7, 3), (10 ** 18 - 1, 0), (123456, 4), (-15, 1)])

    def number(self):
        return ("number", self.decimal())

    def source(self):
        return self.pick([("ref", self.reference()), ("ref", self.reference()), self.number(), ("text", self.pick(["a", "it's", " b", "12", "w", "abcdefghijklmn"]))])

    def expression(self, levels):
        kind = self.pick(["ref", "ref", "number", "negative", "plus", "minus", "times"])
        if levels == 1 or kind in ("ref", "number"):
            return ("ref", self.reference(self.numbers)) if self.chance(60) else self.number()
        return (kind,) + tuple(self.expression(levels - 1) for _ in range(1 if kind == "negative" else 2))

    def condition(self, levels):
        kind = self.pick(["compare", "compare", "texts", "digits", "not", "and", "or"])
        if levels > 1 and kind == "not":
            return ("not", self.condition(levels - 1))
        if levels > 1 and kind in ("and", "or"):
            return (kind, self.condition(levels - 1), self.condition(levels - 1))
        if kind == "digits":
            return ("digits", self.reference())
        if kind == "texts":
            return ("texts", self.pick(RELATIONS), self.source(), self.source())
        return ("compare", self.pick(RELATIONS), self.expression(2), self.expression(2))

    def statements(self, levels, least, at):
        many = max(least, self.random.randrange(0, 3))
        return tuple(self.statement(levels, at) for _ in range(many)) if levels > 0 else ()

    def statement(self, levels, at):
        """Return a statement for a paragraph that the checker lets by; there is always one."""
        for _ in range(200):
            kind = self.pick(["move", "move", "move", "set", "set", "set", "divide", "divide", "if", "if", "perform", "perform", "read", "read", "write",
                              "show", "sort", "clear", "stop"])
            if kind == "stop" and not self.chance(20):
                continue
            parts = self.parts(kind, levels - 1, at)
            if parts is not None and part_fault(check_statement, self.scope, (kind,) + parts) is None:
                return (kind,) + parts
        return ("show", (("text", "none"),))

    def parts(self, kind, inner, at):
        if kind == "move":
            return (self.source(), self.reference())
        if kind == "set":
            return (self.reference(), self.chance(50), self.expression(3), self.statements(inner, 0, at))
        if kind == "divide":
            remainder = self.reference() if self.chance(50) else None
            return (self.expression(2), self.expression(2), self.reference(), self.chance(50), remainder, self.statements(inner, 0, at))
        if kind == "if":
            return (self.condition(3), self.statements(inner, 1, at), self.statements(inner, 0, at)) if inner > 0 else None
        if kind == "perform":
            return self.perform(at)
        if kind in ("read", "write"):
            names = [name for sort, name, _ in self.files if sort == {"read": "input", "write": "output"}[kind]]
            if not names:
                return None
            return (self.pick(names),) + ((self.statements(inner, 0, at), self.statements(inner, 0, at)) if kind == "read" else ())
        if kind == "show":
            return (tuple(self.source() for _ in range(self.pick([1, 1, 2, 3]))),)
        if kind == "sort":
            tables = [name for name in self.items if self.layout.item(name).times > 0] or self.items
            return (self.pick(tables), self.pick([name for name in self.items if self.layout.dims(name)] or self.items), self.chance(50))
        return (self.reference(),) if kind == "clear" else ()

    def perform(self, at):
        if at + 1 >= self.many:
            return None
        first = self.random.randrange(at + 1, self.many)
        last = self.pick([first, self.random.randrange(first, self.many)])
        way = self.pick([
            ("once",), ("times", ("number", (self.pick([0, 1, 2, 3]), 0))), ("times", ("ref", self.reference(self.numbers))), ("until", self.condition(2)),
            ("until", self.condition(2)),
            ("varying", self.reference(self.numbers), self.expression(2), self.expression(1), self.condition(2))])
        return (self.paragraph_names[first], self.paragraph_names[last], way)

    def program(self):
        empty = tuple((name, ()) for name in self.paragraph_names)
        self.scope = Scope((self.name, self.entries, self.files, empty))
        paragraphs = tuple((name, self.statements(3, 2 if at == 0 else 1, at)) for at, name in enumerate(self.paragraph_names))
        program = (self.name, self.entries, self.files, paragraphs)
        assert check(program) is None, check(program)
        return program

    def line(self, record):
        """Return a line that is right, too short, too long, or bad."""
        text = self.layout.first_text(record)
        kind = self.pick(["right", "right", "right", "short", "long", "bad", "figures"])
        if kind == "short":
            return text[:self.random.randrange(len(text) + 1)]
        if kind == "long":
            return text + self.pick([" ", "0", "  x"])
        if kind == "bad":
            place = self.random.randrange(len(text))
            return text[:place] + self.pick(["?", " ", "7", "-", "a"]) + text[place + 1:]
        if kind == "figures":
            return "".join(self.pick("0123456789") if character in "0123456789" else character for character in text)
        return text

    def lines(self):
        return {name: tuple(self.line(record) for _ in range(self.pick([0, 1, 3]))) for sort, name, record in self.files if sort == "input"}


def random_programs(seed, many):
    """Yield pairs of a program and lines for it."""
    for at in range(many):
        maker = Programs(seed * 1000 + at, HEADS[at % len(HEADS)])
        yield maker.program(), maker.lines()
