import unittest

from cardwright.parsing import parse
from cardwright.statements import inner_statements, is_program, is_statement
from cardwright.words import RESERVED
from support import ODD_VALUES, Maker, spoiled
from test_parsing import PAYROLL_TREE, PROGRAMS

A = ("a", ())
REF = ("ref", A)
ONE = ("number", (1, 0))
EQUAL = ("compare", "=", REF, ONE)
STOP = ("stop",)
CLEAR = ("clear", A)

STATEMENTS = [
    ("move", REF, A), ("move", ONE, A), ("move", ("text", "b"), A), ("set", A, False, ONE, ()), ("set", A, True, REF, (STOP, CLEAR)),
    ("divide", REF, ONE, A, False, None, ()), ("divide", REF, ONE, A, True, ("b", (("i", 1),)), (STOP,)),
    ("if", EQUAL, (STOP,), ()), ("if", ("not", EQUAL), (STOP, CLEAR), (CLEAR,)), ("read", "f", (), ()), ("read", "f", (STOP,), ()),
    ("read", "f", (), (STOP,)), ("read", "f", (STOP,), (CLEAR, STOP)), ("write", "f"), ("show", (REF,)),
    ("show", (REF, ONE, ("text", "b"))), ("sort", "a", "b", False), ("sort", "a", "a", True), CLEAR, STOP,
]
WAYS = [("once",), ("times", REF), ("times", ONE), ("times", ("number", (0, 0))), ("times", ("number", (10 ** 18 - 1, 0))),
        ("until", EQUAL), ("varying", A, ONE, ("negative", REF), EQUAL)]
PERFORMS = [("perform", "p", last, way) for last in ["p", "q"] for way in WAYS]


def nested(levels, at_end=False):
    statement = STOP
    for at in range(levels - 1):
        statement = [("if", EQUAL, (statement,), ()), ("if", EQUAL, (STOP,), (statement,)), ("set", A, True, ONE, (statement,)),
                     ("divide", ONE, ONE, A, False, None, (STOP, statement)), ("read", "f", (statement,), ()),
                     ("read", "f", (), (CLEAR, statement))][at % 6]
    return statement


class TestStatements(unittest.TestCase):
    def check(self, good, bad):
        for value in good:
            self.assertIs(is_statement(value), True, value)
        for value in bad:
            self.assertIs(is_statement(value), False, value)

    def test_407_all_kinds(self):
        self.check(STATEMENTS + PERFORMS, [])

    def test_407_near_values(self):
        for statement in STATEMENTS + PERFORMS:
            for other in spoiled(statement):
                self.assertIs(is_statement(other), False, other)
        maker = Maker(4)
        for _ in range(100):
            statement = maker.statement(3)
            self.assertIs(is_statement(statement), True, statement)
            for other in spoiled(statement):
                self.assertIs(is_statement(other), False, other)

    def test_407_other_values(self):
        self.check([], ODD_VALUES + [None, 0, 1, True, "", "stop", (), ["stop"], ("stop", ()), ("Stop",), ("goto", "a"), REF, EQUAL])

    def test_407_parts_of_another_kind(self):
        self.check([], [
            ("move", A, A), ("move", REF, REF), ("move", ("plus", REF, ONE), A), ("move", REF), ("move", REF, A, A), ("move", EQUAL, A),
            ("set", REF, False, ONE, ()), ("set", A, False, EQUAL, ()), ("set", A, False, ("text", "b"), ()), ("set", A, ONE, ()),
            ("set", A, 1, ONE, ()), ("set", A, 0, ONE, ()), ("set", A, None, ONE, ()), ("set", A, False, ONE, None),
            ("set", A, False, ONE, STOP), ("set", A, False, ONE, [STOP]), ("set", A, False, ONE), ("set", A, False, ONE, (), ()),
            ("divide", EQUAL, ONE, A, False, None, ()), ("divide", REF, ("text", "b"), A, False, None, ()),
            ("divide", REF, ONE, REF, False, None, ()), ("divide", REF, ONE, A, 1, None, ()), ("divide", REF, ONE, A, False, (), ()),
            ("divide", REF, ONE, A, False, REF, ()), ("divide", REF, ONE, A, False, False, ()), ("divide", REF, ONE, A, False, None, None),
            ("divide", REF, ONE, A, False, None), ("divide", REF, ONE, A, False, ()), ("if", REF, (STOP,), ()), ("if", EQUAL, (), ()),
            ("if", EQUAL, (), (STOP,)), ("if", EQUAL, STOP, ()), ("if", EQUAL, [STOP], ()), ("if", EQUAL, (STOP,)),
            ("if", EQUAL, (STOP,), None), ("if", EQUAL, (STOP,), [CLEAR]), ("if", EQUAL, (STOP, REF), ()), ("if", EQUAL, (EQUAL,), ()),
            ("read", A, (), ()), ("read", "f", ()), ("read", "f", None, ()), ("read", "f", (), None), ("read", "f", STOP, ()),
            ("read", "f", (), [STOP]), ("write", A), ("write",), ("write", "f", "g"), ("write", "F"), ("show", ()), ("show",),
            ("show", REF), ("show", [REF]), ("show", (REF, ("plus", REF, ONE))), ("show", (A,)), ("show", REF, ONE),
            ("sort", "a", "b"), ("sort", A, "b", False), ("sort", "a", A, False), ("sort", "a", "b", 1), ("sort", "a", "b", 0),
            ("sort", "a", "b", None), ("sort", "a", None, True), ("clear", REF), ("clear", "a"), ("clear",), ("clear", A, A), ("stop", STOP),
        ])

    def test_407_names_and_texts(self):
        for word in list(RESERVED) + ["", "A", "a-", "a" * 21, "a\n", None, 5]:
            self.check([], [("write", word), ("read", word, (), ()), ("sort", word, "a", True), ("sort", "a", word, True),
                            ("perform", word, "p", ("once",)), ("perform", "p", word, ("once",)), ("clear", (word, ())),
                            ("move", REF, ("a", ((word, 1),)) if word != "" else ("a", (("", 0),)))])
        self.check([], [("show", (("text", text),)) for text in ["", "a\n", "\n", chr(37), "b" * 81, "\xe4", "\t", None]])
        self.check([("show", (("text", text),)) for text in ["b", "'", " ", "b" * 80]], [])

    def test_407_ways(self):
        def perform(way):
            return ("perform", "p", "q", way)

        self.check([], [perform(way) for way in [
            None, (), "once", ["once"], ("once", ()), ("Once",), ("", ), ("times",), ("times", 5), ("times", A), ("times", REF, REF),
            ("times", ("text", "5")), ("times", ("number", (-1, 0))), ("times", ("number", (5, 1))), ("times", ("number", (15, 1))),
            ("times", ("number", (-5, 1))), ("times", ("number", (10 ** 18, 0))), ("times", ("number", (10, 1))), ("times", ("number", (True, 0))),
            ("times", ("plus", ONE, ONE)), ("times", ["number", (1, 0)]), ("times", EQUAL), ("until",), ("until", REF), ("until", EQUAL, EQUAL),
            ("until", [*EQUAL]), ("varying", A, ONE, ONE), ("varying", A, ONE, ONE, EQUAL, ()), ("varying", REF, ONE, ONE, EQUAL),
            ("varying", A, EQUAL, ONE, EQUAL), ("varying", A, ONE, EQUAL, EQUAL), ("varying", A, ONE, ONE, ONE), ["until", EQUAL], ("move", REF, A),
            STOP, ("thru", "q"),
        ]])
        self.check([], [("perform", "p", ("once",)), ("perform", "p", "q", ("once",), ()), ("perform", "p", "q"), ("perform", "p", None, ("once",)),
                        ("perform", "p", "", ("once",)), ("perform", A, A, ("once",))])

    def test_407_levels(self):
        for levels in range(1, 9):
            self.check([nested(levels)], [])
        self.check([], [nested(9), nested(10), nested(500)])
        for hold in [lambda inner: ("if", EQUAL, (STOP, inner), ()), lambda inner: ("if", EQUAL, (STOP,), (inner, STOP)),
                     lambda inner: ("set", A, True, ONE, (inner,)), lambda inner: ("divide", ONE, ONE, A, True, A, (STOP, inner)),
                     lambda inner: ("read", "f", (inner,), (STOP,)), lambda inner: ("read", "f", (STOP,), (STOP, inner))]:
            self.check([hold(nested(7))], [hold(nested(8)), hold(("go",)), hold(None), hold(())])
        deep = REF
        for _ in range(19):
            deep = ("plus", deep, ONE)
        self.check([("set", A, False, deep, ())], [("set", A, False, ("plus", deep, ONE), ())])

    def test_508_inner_statements(self):
        self.assertEqual(inner_statements(STOP), [])
        self.assertEqual(inner_statements(("if", EQUAL, (STOP, CLEAR), (CLEAR,))), [STOP, CLEAR, CLEAR])
        self.assertEqual(inner_statements(("read", "f", (STOP,), (CLEAR,))), [STOP, CLEAR])
        self.assertEqual(inner_statements(("set", A, True, ONE, (CLEAR,))), [CLEAR])
        self.assertEqual(inner_statements(("divide", ONE, ONE, A, True, None, (CLEAR, STOP))), [CLEAR, STOP])
        for statement in STATEMENTS[:4] + PERFORMS:
            self.assertEqual(inner_statements(statement), [])


class TestPrograms(unittest.TestCase):
    NAME, ENTRIES, FILES, PARAGRAPHS = PAYROLL_TREE

    def check(self, good, bad):
        for value in good:
            self.assertIs(is_program(value), True, value)
        for value in bad:
            self.assertIs(is_program(value), False, value)

    def test_407_programs(self):
        main = (("main", ()),)
        self.check([PAYROLL_TREE, ("p", (), (), main), ("p", self.ENTRIES, (), main), ("p", (), self.FILES, main),
                    ("p", (), (), (("main", (STOP,)), ("main", tuple(STATEMENTS + PERFORMS))))], [])

    def test_408_parsed_programs(self):
        self.check([parse(text) for text in PROGRAMS], [])

    def test_407_near_values(self):
        for tree in [PAYROLL_TREE] + [parse(text) for text in PROGRAMS]:
            for other in spoiled(tree):
                self.assertIs(is_program(other), False, other)
        maker = Maker(6)
        for _ in range(30):
            tree = maker.program(2)
            self.assertIs(is_program(tree), True, tree)
            for other in spoiled(tree):
                self.assertIs(is_program(other), False, other)

    def test_407_other_values(self):
        main = (("main", ()),)
        self.check([], ODD_VALUES + [None, 0, "", "p", (), STOP, REF, EQUAL])
        self.check([], [
            ("p", (), (), ()), ("p", (), ()), ("p", (), (), main, ()), ("P", (), (), main), ("data", (), (), main), (None, (), (), main),
            ("p", [], (), main), ("p", (), [], main), ("p", (), (), [("main", ())]), ("p", None, (), main), ("p", (), None, main),
            ("p", (), (), None), ["p", (), (), main], ("p", (), (), ("main", ())), ("p", (), (), (["main", ()],)), ("p", (), (), (("main", []),)),
            ("p", (), (), (("main",),)), ("p", (), (), (("main", (), ()),)), ("p", (), (), (("Main", ()),)), ("p", (), (), (("stop", ()),)),
            ("p", (), (), (("main", STOP),)), ("p", (), (), (("main", (REF,)),)), ("p", (), (), (("main", None),)),
            ("p", self.FILES, (), main), ("p", (), self.ENTRIES, main), ("p", (None,), (), main), ("p", (), (None,), main),
        ])

    def test_407_files(self):
        main = (("main", ()),)
        self.check([("p", (), (("input", "f", "f"), ("output", "f", "g")), main)], [("p", (), (file,), main) for file in [
            ("in", "f", "g"), ("Input", "f", "g"), ("", "f", "g"), ("input", "f"), ("input", "f", "g", "h"), ["input", "f", "g"],
            ("input", "F", "g"), ("input", "f", "G"), ("input", "f", "record"), ("input", "", "g"), ("input", None, "g"), ("input", "f", None),
            ("input", "f", ("g", ())), (1, "f", "g"), (None, "f", "g"), "input", ("stop",), (["input"], "f", "g")]])

    def test_407_levels(self):
        self.check([("p", (), (), (("main", (STOP, nested(8))),))], [("p", (), (), (("main", (STOP, nested(9))),))])


if __name__ == "__main__":
    unittest.main()
