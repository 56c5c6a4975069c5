import unittest

from cardwright.errors import BadData
from cardwright.layout import Layout
from cardwright.pictures import parse_picture


def entry(level, name, picture=None, times=0, value=None):
    return (level, name, None if picture is None else parse_picture(picture), times, value)


ROW = [entry(1, "row"), entry(2, "cell", "99", 3, (7, 0)), entry(2, "tail", "x")]

# Offsets and sizes of one occurrence, as laid out by hand:
# shop 0 (41): code 0 (3), line 3 (10 x 3): item 3 (4), part 7 (2 x 3): kind 7 (1), many 8 (1); sum 33 (8)
# flag 41 (2); last 43 (9): grid 43 (3 x 3): dot 43 (1 x 3)
SHOP = [
    entry(1, "shop"),
    entry(5, "code", "x(3)", 0, "ab"),
    entry(5, "line", None, 3),
    entry(10, "item", "s9v99", 0, (-15, 1)),
    entry(10, "part", None, 3),
    entry(20, "kind", "x", 0, "'"),
    entry(20, "many", "9"),
    entry(5, "sum", "zz9.99db", 0, (-25, 1)),
    entry(1, "flag", "x(2)"),
    entry(1, "last"),
    entry(2, "grid", None, 3),
    entry(49, "dot", "9", 3, (4, 0)),
]
NUMBER = ("number", True, 1, 2)
ONE = ("text", 1)
FIGURE = ("number", False, 1, 0)
SUM = ("edited", "zz9.99", 3, 2, "db")


class TestTree(unittest.TestCase):
    def setUp(self):
        self.layout = Layout(SHOP)

    def test_300_list_or_tuple(self):
        self.assertEqual(Layout(tuple(SHOP)).first_storage(), self.layout.first_storage())
        given = list(SHOP)
        Layout(given)
        self.assertEqual(given, SHOP)

    def test_300_no_entries(self):
        layout = Layout([])
        self.assertEqual((layout.size(), layout.names(), layout.records(), layout.first_storage()), (0, [], [], ""))

    def test_301_names_and_records(self):
        names = ["shop", "code", "line", "item", "part", "kind", "many", "sum", "flag", "last", "grid", "dot"]
        self.assertEqual(self.layout.names(), names)
        self.assertEqual(self.layout.records(), ["shop", "flag", "last"])

    def test_301_new_lists(self):
        self.layout.names().append("more")
        self.layout.records().clear()
        self.layout.cells("shop").clear()
        self.assertEqual(len(self.layout.names()), 12)
        self.assertEqual(self.layout.records(), ["shop", "flag", "last"])
        self.assertEqual(len(self.layout.cells("shop")), 23)

    def test_301_parents_and_children(self):
        parents = {"shop": "", "code": "shop", "line": "shop", "item": "line", "part": "line", "kind": "part",
                   "many": "part", "sum": "shop", "flag": "", "last": "", "grid": "last", "dot": "grid"}
        children = {"shop": ["code", "line", "sum"], "line": ["item", "part"], "part": ["kind", "many"],
                    "last": ["grid"], "grid": ["dot"]}
        for name, parent in parents.items():
            self.assertEqual(self.layout.item(name).parent, parent, name)
            self.assertEqual(self.layout.item(name).children, children.get(name, []), name)

    def test_301_attributes_of_items(self):
        for _, name, picture, times, value in SHOP:
            item = self.layout.item(name)
            self.assertEqual((item.name, item.picture, item.times, item.value), (name, picture, times, value))

    def test_302_offsets_and_sizes(self):
        expected = {"shop": (0, 41), "code": (0, 3), "line": (3, 10), "item": (3, 4), "part": (7, 2), "kind": (7, 1),
                    "many": (8, 1), "sum": (33, 8), "flag": (41, 2), "last": (43, 9), "grid": (43, 3), "dot": (43, 1)}
        for name, (offset, size) in expected.items():
            item = self.layout.item(name)
            self.assertEqual((item.offset, item.size), (offset, size), name)
        self.assertEqual(self.layout.size(), 52)

    def test_302_kinds(self):
        kinds = {"shop": "group", "code": "text", "line": "group", "item": "number", "part": "group", "kind": "text",
                 "many": "number", "sum": "edited", "flag": "text", "last": "group", "grid": "group", "dot": "number"}
        for name, kind in kinds.items():
            self.assertEqual(self.layout.kind(name), kind, name)

    def test_303_dims(self):
        line, part = (3, 10), (3, 2)
        expected = {"shop": (), "code": (), "line": (line,), "item": (line,), "part": (line, part), "kind": (line, part),
                    "many": (line, part), "sum": (), "flag": (), "last": (), "grid": ((3, 3),), "dot": ((3, 3), (3, 1))}
        for name, dims in expected.items():
            self.assertEqual(self.layout.dims(name), dims, name)

    def test_303_one_time_is_a_dimension(self):
        layout = Layout([entry(1, "a"), entry(2, "b", None, 1), entry(3, "c", "99", 1), entry(3, "d", "x")])
        self.assertEqual(layout.dims("b"), ((1, 3),))
        self.assertEqual(layout.dims("c"), ((1, 3), (1, 2)))
        self.assertEqual(layout.size(), 3)

    def test_303_different_times(self):
        layout = Layout([entry(1, "a"), entry(2, "b", None, 5), entry(3, "c", None), entry(4, "d", "x(3)", 2), entry(3, "e", "x")])
        self.assertEqual(layout.dims("d"), ((5, 7), (2, 3)))
        self.assertEqual(layout.dims("c"), ((5, 7),))
        self.assertEqual(layout.dims("e"), ((5, 7),))
        self.assertEqual((layout.item("e").offset, layout.size()), (6, 35))

    def test_306_cells(self):
        part = [(0, ONE), (1, FIGURE)]
        line = [(0, NUMBER), (4, ONE), (5, FIGURE), (6, ONE), (7, FIGURE), (8, ONE), (9, FIGURE)]
        self.assertEqual(self.layout.cells("part"), part)
        self.assertEqual(self.layout.cells("line"), line)
        shop = [(0, ("text", 3))] + [(start + at, kind) for start in (3, 13, 23) for at, kind in line] + [(33, SUM)]
        self.assertEqual(self.layout.cells("shop"), shop)
        self.assertEqual(self.layout.cells("last"), [(at, FIGURE) for at in range(9)])
        self.assertEqual(self.layout.cells("grid"), [(at, FIGURE) for at in range(3)])
        self.assertEqual(self.layout.cells("dot"), [(0, FIGURE)])
        self.assertEqual(self.layout.cells("sum"), [(0, SUM)])
        self.assertEqual(Layout(ROW).cells("row"), [(0, ("number", False, 2, 0)), (2, ("number", False, 2, 0)),
                                                    (4, ("number", False, 2, 0)), (6, ONE)])

    def test_306_shape(self):
        self.assertEqual(self.layout.shape("part"), (ONE, FIGURE))
        self.assertEqual(self.layout.shape("line"), (NUMBER,) + (ONE, FIGURE) * 3)
        self.assertEqual(self.layout.shape("flag"), (("text", 2),))
        self.assertEqual(self.layout.shape("last"), (FIGURE,) * 9)
        self.assertIs(type(self.layout.shape("shop")), tuple)

    def test_304_first_texts(self):
        part, line = "'0", "-150'0'0'0"
        expected = {"code": "ab ", "line": line, "item": "-150", "part": part, "kind": "'", "many": "0", "sum": "  2.50DB",
                    "shop": "ab " + line * 3 + "  2.50DB", "flag": "  ", "last": "4" * 9, "grid": "444", "dot": "4"}
        for name, text in expected.items():
            self.assertEqual(self.layout.first_text(name), text, name)
        self.assertEqual(self.layout.first_storage(), expected["shop"] + "  " + "4" * 9)
        self.assertEqual(Layout(ROW).first_storage(), "070707 ")

    def test_304_first_texts_of_fields(self):
        cases = [("x(4)", None, "    "), ("x(4)", "a b", "a b "), ("x(4)", "abcd", "abcd"), ("x(4)", " ", "    "),
                 ("9(3)", None, "000"), ("s9", None, "+0"), ("zz9", None, "  0"), ("zz", None, "  "), ("9v99", (5, 1), "050"),
                 ("9v99", (525, 2), "525"), ("9v99", (5, 0), "500"), ("s9v9", (-5, 0), "-50"), ("99.9", (10, 0), "10.0"),
                 ("**9cr", (-7, 0), "**7CR"), ("9(18)", (10 ** 18 - 1, 0), "9" * 18), ("x(80)", "a" * 80, "a" * 80)]
        for picture, value, text in cases:
            layout = Layout([entry(1, "a", picture, 0, value)])
            self.assertEqual(layout.first_text("a"), text)
            self.assertEqual(layout.first_storage(), text)

    def test_305_missing(self):
        for name in ["", "row", "shops", "Shop", "dots"]:
            for method in [self.layout.item, self.layout.kind, self.layout.dims, self.layout.cells, self.layout.shape,
                           self.layout.first_text]:
                with self.assertRaises(BadData) as caught:
                    method(name)
                self.assertEqual((caught.exception.reason, caught.exception.name), ("missing", name))


class TestFaults(unittest.TestCase):
    def check(self, entries, reason, name):
        for given in (list(entries), tuple(entries)):
            with self.assertRaises(BadData) as caught:
                Layout(given)
            self.assertEqual((caught.exception.reason, caught.exception.name), (reason, name))

    def test_305_level_of_a_record(self):
        self.check([entry(2, "a", "x")], "level", "a")
        self.check([entry(49, "a"), entry(1, "b", "x")], "level", "a")

    def test_305_level_of_siblings(self):
        self.check([entry(1, "a"), entry(5, "b", "x"), entry(3, "c", "x")], "level", "c")
        self.check([entry(1, "a"), entry(5, "b"), entry(10, "c", "x"), entry(7, "d", "x")], "level", "d")
        self.check([entry(1, "a"), entry(5, "b"), entry(10, "c", "x"), entry(4, "d", "x")], "level", "d")
        self.check([entry(1, "a"), entry(5, "b"), entry(10, "c", "x"), entry(2, "d", "x")], "level", "d")
        self.check([entry(1, "a"), entry(3, "b", "x"), entry(1, "c"), entry(5, "d", "x"), entry(3, "e", "x")], "level", "e")
        self.check([entry(1, "a"), entry(5, "b"), entry(9, "c", "x"), entry(5, "d"), entry(7, "e", "x"), entry(9, "f", "x")],
                   "group", "e")
        self.check([entry(1, "a"), entry(5, "b"), entry(9, "c", "x"), entry(5, "d"), entry(7, "e", "x"), entry(6, "f", "x")],
                   "level", "f")

    def test_301_levels_that_stand_right(self):
        layout = Layout([entry(1, "a"), entry(5, "b"), entry(9, "c", "x"), entry(5, "d"), entry(7, "e", "x"), entry(7, "f", "x"),
                         entry(5, "g", "x"), entry(1, "h"), entry(2, "i"), entry(3, "j"), entry(49, "k", "x"), entry(2, "l", "x"),
                         entry(1, "m", "x"), entry(1, "n", "x")])
        self.assertEqual(layout.records(), ["a", "h", "m", "n"])
        self.assertEqual(layout.item("a").children, ["b", "d", "g"])
        self.assertEqual(layout.item("d").children, ["e", "f"])
        self.assertEqual(layout.item("h").children, ["i", "l"])
        self.assertEqual(layout.item("k").parent, "j")

    def test_301_all_levels_deep(self):
        entries = [entry(level, f"g{level}") for level in range(1, 49)] + [entry(49, "f", "x(9)")]
        layout = Layout(entries)
        self.assertEqual(layout.size(), 9)
        self.assertEqual(layout.cells("g1"), [(0, ("text", 9))])
        self.assertEqual(layout.first_text("g1"), " " * 9)

    def test_305_name(self):
        self.check([entry(1, "a", "x"), entry(1, "a", "x")], "name", "a")
        self.check([entry(1, "a"), entry(2, "a", "x")], "name", "a")
        self.check([entry(1, "a"), entry(2, "b", "x"), entry(1, "c"), entry(2, "b", "x")], "name", "b")

    def test_305_occurs_of_a_record(self):
        self.check([entry(1, "a", "x", 2)], "occurs", "a")
        self.check([entry(1, "a", "x", 1)], "occurs", "a")
        self.check([entry(1, "a", "x"), entry(1, "b", None, 50), entry(2, "c", "x")], "occurs", "b")

    def test_305_occurs_of_three_dimensions(self):
        self.check([entry(1, "a"), entry(2, "b", None, 2), entry(3, "c", None, 2), entry(4, "d", "x", 2)], "occurs", "d")
        self.check([entry(1, "a"), entry(2, "b", None, 1), entry(3, "c", None, 1), entry(4, "d", "x", 1)], "occurs", "d")
        self.check([entry(1, "a"), entry(2, "b", None, 2), entry(3, "c", None, 2), entry(4, "d"), entry(5, "e", "x", 2)],
                   "occurs", "e")
        Layout([entry(1, "a"), entry(2, "b", None, 2), entry(3, "c", None, 2), entry(4, "d", "x")])
        Layout([entry(1, "a"), entry(2, "b", None, 2), entry(3, "c", "x", 2), entry(3, "d", "x", 2), entry(2, "e", "x", 2)])

    def test_305_value_of_a_group(self):
        self.check([entry(1, "a", None, 0, "x"), entry(2, "b", "x")], "value", "a")
        self.check([entry(1, "a"), entry(2, "b", None, 2, (0, 0)), entry(3, "c", "x")], "value", "b")

    def test_305_value_that_does_not_suit(self):
        for picture, value in [("x(3)", "abcd"), ("x(3)", (1, 0)), ("x(3)", (0, 0)), ("9(3)", "1"), ("9(3)", "abc"), ("9(3)", (1, 1)),
                               ("9(3)", (1000, 0)), ("9(3)", (-1, 0)), ("9v99", (1, 3)), ("9v99", (10, 0)), ("9v99", (1000, 2)),
                               ("9v99", (-1, 2)), ("s9", (-10, 0)), ("zz9", (-1, 0)), ("zz9", (1, 1)), ("zz9", (1000, 0)),
                               ("zz9", "1"), ("-9", (10, 0)), ("9.9", (105, 2)), ("9.9", (10, 0)), ("x(79)", "a" * 80)]:
            self.check([entry(1, "a", picture, 0, value)], "value", "a")

    def test_305_value_that_suits(self):
        for picture, value in [("x(3)", "abc"), ("x(3)", "a"), ("9(3)", (999, 0)), ("9v99", (999, 2)), ("9v99", (9, 0)),
                               ("9v99", (0, 0)), ("s9", (-9, 0)), ("-9", (-9, 0)), ("9cr", (-9, 0)), ("zz9", (0, 0)), ("9.9", (99, 1))]:
            Layout([entry(1, "a", picture, 0, value)])

    def test_305_group_without_children(self):
        self.check([entry(1, "a")], "group", "a")
        self.check([entry(1, "a"), entry(1, "b", "x")], "group", "a")
        self.check([entry(1, "a"), entry(2, "b"), entry(2, "c", "x")], "group", "b")
        self.check([entry(1, "a"), entry(3, "b"), entry(2, "c", "x")], "group", "b")
        self.check([entry(1, "a"), entry(2, "b", "x"), entry(2, "c")], "group", "c")

    def test_305_field_ahead_of_a_greater_level(self):
        self.check([entry(1, "a", "x"), entry(2, "b", "x")], "group", "a")
        self.check([entry(1, "a"), entry(2, "b", "x"), entry(3, "c", "x")], "group", "b")
        self.check([entry(1, "a"), entry(2, "b", "x"), entry(49, "c", "x")], "group", "b")

    def test_305_first_reason(self):
        # each entry at fault has all reasons from its first one on that may come together
        start = [entry(1, "a"), entry(3, "b", "x")]
        self.check(start + [entry(2, "a", None, 2, "v")], "level", "a")
        self.check(start + [entry(1, "a", None, 2, "v")], "name", "a")
        self.check(start + [entry(1, "c", None, 2, "v")], "occurs", "c")
        self.check(start + [entry(1, "c", None, 0, "v")], "value", "c")
        self.check(start + [entry(1, "c", None)], "group", "c")
        self.check(start + [entry(1, "c", "x", 2, "vv"), entry(2, "d", "x")], "occurs", "c")
        self.check(start + [entry(1, "c", "x", 0, "vv"), entry(2, "d", "x")], "value", "c")
        self.check(start + [entry(1, "c", "x", 0, "v"), entry(2, "d", "x")], "group", "c")
        self.check(start + [entry(1, "b", "x", 0, "vv")], "name", "b")

    def test_305_first_entry(self):
        self.check([entry(1, "a", "x", 0, "vv"), entry(2, "b", "x"), entry(1, "a", "x")], "value", "a")
        self.check([entry(1, "a"), entry(2, "b", "9", 0, "v"), entry(1, "c", "x", 4)], "value", "b")
        self.check([entry(1, "a"), entry(1, "a", "x", 3)], "group", "a")
        self.check([entry(2, "a"), entry(2, "a", "x", 3)], "level", "a")
        self.check([entry(1, "a", "x"), entry(1, "b", "x", 3), entry(1, "a", "x")], "occurs", "b")

    def test_305_size(self):
        record = [entry(1, "a"), entry(2, "b", "x(80)", 50)]
        self.assertEqual(Layout(record).size(), 4000)
        self.assertEqual(Layout(record).first_storage(), " " * 4000)
        self.check(record + [entry(1, "c", "x")], "size", "")
        self.check([entry(1, "a"), entry(2, "b", None, 50), entry(3, "c", "x(80)"), entry(3, "d", "x")], "size", "")
        self.check([entry(1, "a"), entry(2, "b", None, 50), entry(3, "c", "x(2)", 50)], "size", "")
        many = [entry(1, f"r{at}", "x(50)") for at in range(80)]
        self.assertEqual(Layout(many).size(), 4000)
        self.check(many + [entry(1, "r", "9")], "size", "")

    def test_305_size_comes_last(self):
        record = [entry(1, "a"), entry(2, "b", "x(80)", 50), entry(2, "c", "x(80)", 50)]
        self.check(record, "size", "")
        self.check(record + [entry(1, "a", "x")], "name", "a")
        self.check(record + [entry(1, "d")], "group", "d")


if __name__ == "__main__":
    unittest.main()
