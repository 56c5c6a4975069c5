import unittest

from cardwright.trees import depth_of, is_condition, is_entry, is_expression
from cardwright.words import RESERVED
from support import ODD_VALUES, Maker, spoiled

A = ("ref", ("a", ()))
ONE = ("number", (1, 0))
EQUAL = ("compare", "=", A, ONE)
PERCENT = chr(37)


def ref(*subscripts):
    return ("ref", ("a", subscripts))


def number(units, scale=0):
    return ("number", (units, scale))


def nested(kind, levels, last):
    """Return a tree of so many levels with one part at each level, or one deep and one flat part."""
    tree = last
    for at in range(levels - 1):
        if kind in ("negative", "not"):
            tree = (kind, tree)
        else:
            tree = (kind, tree, last) if at % 2 else (kind, last, tree)
    return tree


class TreeCase(unittest.TestCase):
    def check(self, is_tree, good, bad):
        for value in good:
            self.assertIs(is_tree(value), True, value)
        for value in bad:
            self.assertIs(is_tree(value), False, value)

    def check_near(self, is_tree, trees):
        for tree in trees:
            self.assertIs(is_tree(tree), True, tree)
            for other in spoiled(tree):
                self.assertIs(is_tree(other), False, other)


class TestDepth(unittest.TestCase):
    def test_406_expressions(self):
        self.assertEqual(depth_of(A), 1)
        self.assertEqual(depth_of(ref(("", 1), ("i", -3))), 1)
        self.assertEqual(depth_of(ONE), 1)
        self.assertEqual(depth_of(("negative", A)), 2)
        for kind in ["plus", "minus", "times"]:
            self.assertEqual(depth_of((kind, A, ONE)), 2)
            self.assertEqual(depth_of((kind, ("negative", A), ONE)), 3)
            self.assertEqual(depth_of((kind, A, ("negative", ("negative", A)))), 4)
            for levels in [1, 2, 20, 25]:
                self.assertEqual(depth_of(nested(kind, levels, A)), levels)
        self.assertEqual(depth_of(nested("negative", 21, A)), 21)

    def test_406_conditions(self):
        deep = nested("plus", 20, A)
        for tree in [EQUAL, ("compare", "<", deep, deep), ("texts", "=", A, ("text", "b")), ("digits", ("a", ()))]:
            self.assertEqual(depth_of(tree), 1)
            self.assertEqual(depth_of(("not", tree)), 2)
            for kind in ["and", "or"]:
                self.assertEqual(depth_of((kind, tree, tree)), 2)
                self.assertEqual(depth_of((kind, ("not", ("not", tree)), tree)), 4)
                self.assertEqual(depth_of((kind, tree, ("not", tree))), 3)
                self.assertEqual(depth_of(nested(kind, 21, tree)), 21)
        self.assertEqual(depth_of(nested("not", 20, EQUAL)), 20)


class TestExpressions(TreeCase):
    def test_407_forms(self):
        self.check(is_expression, [
            A, ONE, ref(("", 1)), ref(("", 50), ("i", 0), ("i", 50), ("i", -50)), number(0), number(-5), number(125, 2),
            ("negative", A), ("plus", A, ONE), ("minus", A, A), ("times", ("negative", A), ("plus", A, A)),
        ], [
            ("text", "a"), ("ref", "a"), ("ref", ()), ("ref", A), ("ref", ("a", ()), ()), ("ref",), ("number",), ("number", 1),
            ("number", (1, 0), 0), ("negative",), ("negative", A, A), ("plus", A), ("plus", A, A, A), ("times",), ("minus", A, ()),
            ("negative", ("text", "a")), ("negative", EQUAL), ("plus", A, EQUAL), ("not", A), ("and", A, A), ("divide", A, A),
            ("Plus", A, A), ("", A), (1, A), EQUAL, ("a", ()), (1, 0), "a", [*A], ["plus", A, A], ("plus", A, [*A]),
        ])

    def test_407_references(self):
        self.check(is_expression, [("ref", (name, ())) for name in ["a", "z9", "a-b", "a--b", "a" * 20]], [
            ("ref", (name, ())) for name in ["", "A", "1", "a-", "-a", "a.b", "a b", "a\n", "a" * 21, 1, None, b"a"]])
        self.check(is_expression, [], [("ref", (word, ())) for word in RESERVED])
        self.check(is_expression, [], [("ref", ("a", None)), ("ref", ("a", [])), ("ref", ("a", (), ())), ("ref", ("a",)),
                                       ("ref", ("a", "")), ("ref", ["a", ()])])

    def test_407_subscripts(self):
        good = [("", 1), ("", 50), ("i", 0), ("i", 1), ("i", 50), ("i", -1), ("i", -50), ("a", 3)]
        bad = [("", 0), ("", -1), ("", 51), ("i", 51), ("i", -51), ("I", 0), ("to", 0), ("i", True), ("", True), ("i", False), ("i",),
               ("", 1.0), ("i", 0.0), ("i", 0, 0), ["i", 0], ["", 1], (None, 1), (0, 1), "i", 1, None, (), ("i", "0"), ("i", None)]
        self.check(is_expression, [ref(one) for one in good], [ref(one) for one in bad])
        self.check(is_expression, [ref(*good)], [ref(("", 1), one) for one in bad])
        self.check(is_expression, [ref(*[("", 1)] * 100)], [("ref", ("a", [("", 1)]))])

    def test_407_decimals(self):
        most = 10 ** 18 - 1
        self.check(is_expression, [
            number(0), number(most), number(-most), number(1, 17), number(-1, 17), number(most, 17), number(most, 1), number(5, 1),
            number(101, 1), number(10), number(-10),
        ], [
            number(most + 1), number(-most - 1), number(1, 18), number(-1, 18), number(most, 18), number(10, 1), number(0, 1),
            number(-100, 2), number(1, -1), number(1, 10 ** 12), number(10 ** 5000), number(True), number(1, True), number(0, False),
            number(1.0), number(1, 0.0), number("1"), number(None), ("number", (1,)), ("number", (1, 0, 0)), ("number", [1, 0]),
            ("number", "1"), ("number", ()),
        ])

    def test_407_depth(self):
        for kind in ["negative", "plus", "minus", "times"]:
            self.check(is_expression, [nested(kind, 20, A), nested(kind, 19, ONE)], [
                nested(kind, 21, A), nested(kind, 22, A), nested(kind, 5000, A)])

    def test_407_a_deep_tree_with_common_parts(self):
        tree = A
        for _ in range(200):
            tree = ("plus", tree, tree)
        self.assertIs(is_expression(tree), False)

    def test_407_other_values(self):
        self.check(is_expression, [], ODD_VALUES + [None, 0, 1, True, False, "", "a", (), -1, "ref", "plus"])

    def test_407_near_values(self):
        maker = Maker(1)
        self.check_near(is_expression, [maker.expression(4) for _ in range(60)])


class TestConditions(TreeCase):
    def test_407_forms(self):
        text = ("text", "a")
        self.check(is_condition, [
            EQUAL, ("digits", ("a", ())), ("digits", ("a", (("", 1),))), ("texts", "=", A, A), ("texts", "<>", text, ONE),
            ("texts", ">", text, text), ("not", EQUAL), ("and", EQUAL, EQUAL), ("or", ("not", EQUAL), ("and", EQUAL, EQUAL)),
            ("compare", "=", ("plus", A, ONE), ("negative", A)),
        ], [
            ("compare", "=", A), ("compare", "=", A, A, A), ("compare", A, A), ("compare", "=", A, text), ("compare", "=", EQUAL, A),
            ("texts", "=", A), ("texts", "=", A, A, A), ("texts", "=", A, ("plus", A, A)), ("texts", "=", ("negative", A), A),
            ("digits",), ("digits", A), ("digits", "a"), ("digits", ("a", ()), ()), ("digits", text), ("not",), ("not", EQUAL, EQUAL),
            ("and", EQUAL), ("and", EQUAL, EQUAL, EQUAL), ("or",), ("or", EQUAL, A), ("not", A), ("xor", EQUAL, EQUAL), A, ONE,
            ("negative", EQUAL), ("plus", EQUAL, EQUAL), ("", EQUAL), ["not", EQUAL], ("not", [*EQUAL]), ("and", EQUAL, [*EQUAL]),
            ("compare", "=", [*A], A), ("compares", "=", A, A),
        ])

    def test_407_operators(self):
        for kind in ["compare", "texts"]:
            self.check(is_condition, [(kind, sign, A, ONE) for sign in ["=", "<", ">", "<=", ">=", "<>"]], [
                (kind, sign, A, ONE) for sign in ["", "==", "=<", "!=", "><", "= ", "plus", None, 1, True, ("=",), ["="], b"="]])

    def test_407_sources(self):
        def texts(string):
            return ("texts", "=", A, ("text", string))

        self.check(is_condition, [texts(string) for string in ["a", " ", "'", "~", "b" * 80, "A\\"]], [
            texts(string) for string in ["", "b" * 81, "a\n", "\n", "\t", PERCENT, "\x7f", "\xe4", None, 1, b"a", ["a"], ("a",)]])
        self.check(is_condition, [], [("texts", "=", ("text",), A), ("texts", "=", ("text", "a", "b"), A), ("texts", "=", "a", A),
                                      ("texts", "=", A, ["text", "a"]), ("texts", "=", A, ("string", "a"))])

    def test_407_depth(self):
        for kind in ["not", "and", "or"]:
            self.check(is_condition, [nested(kind, 20, EQUAL)], [nested(kind, 21, EQUAL), nested(kind, 5000, EQUAL)])
        deep = nested("plus", 20, A)
        self.check(is_condition, [nested("not", 20, ("compare", "=", deep, deep))], [
            ("compare", "=", A, nested("plus", 21, A)), ("compare", "=", nested("times", 21, A), A)])

    def test_407_other_values(self):
        self.check(is_condition, [], ODD_VALUES + [None, 0, 1, True, False, "", "a", (), "digits", "not"])

    def test_407_near_values(self):
        maker = Maker(2)
        self.check_near(is_condition, [maker.condition(4) for _ in range(60)])


class TestEntries(TreeCase):
    def entry(self, level=5, name="a", picture=("text", 3), times=0, value=None):
        return (level, name, picture, times, value)

    def test_407_items(self):
        entry = self.entry
        self.check(is_entry, [entry(level=level) for level in [1, 2, 49]], [
            entry(level=level) for level in [0, -1, 50, True, 1.0, "1", "05", None]])
        self.check(is_entry, [entry(name=name) for name in ["a", "a" * 20, "a-1"]], [
            entry(name=name) for name in ["", "a" * 21, "A", "a-", "data", "occurs", None, 1]])
        self.check(is_entry, [entry(times=times) for times in [0, 1, 50]], [
            entry(times=times) for times in [-1, 51, True, False, 1.0, None, "1"]])

    def test_407_pictures(self):
        self.check(is_entry, [self.entry(picture=picture) for picture in [
            None, ("text", 1), ("text", 80), ("number", True, 0, 1), ("number", False, 18, 0), ("edited", "z9", 2, 0, ""),
            ("edited", "9.9", 1, 1, "cr"),
        ]], [self.entry(picture=picture) for picture in [
            "x(3)", "group", ("text", 0), ("text", 81), ("text", True), ("text",), ["text", 1], ("number", 1, 1, 0),
            ("number", True, 0, 0), ("number", True, 10, 9), ("number", True, True, 0), ("edited", "z9", 1, 0, ""),
            ("edited", "9", 1, 0, ""), ("edited", "z9", 2, 0, "."), ("edited", "z9", 2, 0), (), 0, False, True, ("group", ()),
        ]])

    def test_407_values(self):
        most = 10 ** 18 - 1
        self.check(is_entry, [self.entry(value=value) for value in [
            None, "a", " ", "b" * 80, "it's", (0, 0), (most, 0), (-most, 17), (1, 17),
        ]], [self.entry(value=value) for value in [
            "", "b" * 81, "a\n", PERCENT, (0, 1), (10, 1), (most + 1, 0), (1, 18), (True, 0), (1, False), [1, 0], (1,), (1, 0, 0), 0, 1,
            b"a", ("text", "a"), ("number", (1, 0)),
        ]])
        # Whether the value suits the picture is for the layout to say.
        self.assertIs(is_entry((1, "a", None, 50, "b")), True)
        self.assertIs(is_entry((49, "a", ("text", 1), 1, (5, 0))), True)

    def test_407_form(self):
        entry = self.entry()
        self.check(is_entry, [entry], [list(entry), entry[:4], entry + (None,), entry[1:], (entry,), ()])
        self.check(is_entry, [], ODD_VALUES + [None, 0, True, "", "a", ("input", "a", "b"), A, EQUAL])

    def test_407_near_values(self):
        maker = Maker(3)
        self.check_near(is_entry, [maker.entry() for _ in range(60)])


if __name__ == "__main__":
    unittest.main()
