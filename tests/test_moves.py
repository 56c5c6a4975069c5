import itertools
import unittest

from cardwright.moves import can_move, cut_to, figures_of, moved, padded, stored
from cardwright.pictures import parse_picture

TEXTS = [parse_picture(text) for text in ["x", "x(5)"]]
WHOLE = [parse_picture(text) for text in ["99", "s9"]]
PARTS = [parse_picture(text) for text in ["9v9", "sv99"]]
EDITED = [parse_picture(text) for text in ["zz9", "9.99", "**9cr"]]
GROUPS = [("group", (("text", 2),)), ("group", (("text", 1), ("text", 1))), ("group", (("number", False, 2, 0), ("text", 1)))]


class TestCanMove(unittest.TestCase):
    def test_308_to_a_text_field(self):
        for target in TEXTS:
            for source in [("string",)] + TEXTS + WHOLE + EDITED + GROUPS:
                self.assertIs(can_move(source, target), True, (source, target))
            for source in [("decimal",)] + PARTS:
                self.assertIs(can_move(source, target), False, (source, target))

    def test_308_to_a_number_or_an_edited_field(self):
        for target in WHOLE + PARTS + EDITED:
            for source in [("decimal",)] + WHOLE + PARTS + EDITED:
                self.assertIs(can_move(source, target), True, (source, target))
            for source in [("string",)] + TEXTS + GROUPS:
                self.assertIs(can_move(source, target), False, (source, target))

    def test_308_to_a_group(self):
        for target in GROUPS:
            for source in [("string",), ("decimal",)] + TEXTS + WHOLE + PARTS + EDITED:
                self.assertIs(can_move(source, target), False, (source, target))
        for source, target in itertools.product(GROUPS, GROUPS):
            self.assertIs(can_move(source, target), source == target)
        one = ("group", (("text", 1),))
        self.assertIs(can_move(one, ("group", (("text", 1), ("text", 1)))), False)
        self.assertIs(can_move(("text", 1), one), False)


class TestMoved(unittest.TestCase):
    def check(self, source, content, target, text):
        kind = parse_picture(source) if isinstance(source, str) else source
        self.assertEqual(moved(kind, content, parse_picture(target)), text, (source, content, target))

    def test_309_to_a_text_field(self):
        self.check(("string",), "abc", "x(5)", "abc  ")
        self.check(("string",), "abc", "x(3)", "abc")
        self.check(("string",), "abc", "x(2)", "ab")
        self.check(("string",), "'", "x", "'")
        self.check("x(3)", "a  ", "x(2)", "a ")
        self.check("x(3)", "a b", "x(4)", "a b ")
        self.check("zz9.99-", "  1.50-", "x(8)", "  1.50- ")
        self.check("zz9.99-", "  1.50-", "x(3)", "  1")
        self.check("-99", "-05", "x(3)", "-05")
        self.check("9cr", "5CR", "x(4)", "5CR ")
        self.check(("group", (("number", True, 1, 0), ("text", 1))), "-5a", "x(4)", "-5a ")
        self.check(("group", (("number", True, 1, 0), ("text", 1))), "-5a", "x(2)", "-5")

    def test_309_number_to_a_text_field(self):
        self.check("9(3)", "012", "x(3)", "012")
        self.check("9(3)", "012", "x(5)", "012  ")
        self.check("9(3)", "012", "x(2)", "01")
        self.check("s9(3)", "-012", "x(4)", "012 ")
        self.check("s9(3)", "+012", "x(3)", "012")
        self.check("s9(3)", "-012", "x", "0")

    def test_309_to_a_number_field(self):
        self.check(("decimal",), (-12345, 2), "s99v9", "-234")
        self.check(("decimal",), (-12345, 2), "99v9", "234")
        self.check(("decimal",), (12345, 2), "s9(3)v99", "+12345")
        self.check(("decimal",), (12399, 2), "9(3)", "123")
        self.check(("decimal",), (-12399, 2), "s9(3)", "-123")
        self.check(("decimal",), (-9, 1), "s9", "+0")
        self.check(("decimal",), (-100, 0), "s99", "+00")
        self.check(("decimal",), (7, 0), "9v99", "700")
        self.check(("decimal",), (10 ** 18 + 5, 0), "9(18)", "0" * 17 + "5")
        self.check(("decimal",), (0, 0), "v9", "0")
        self.check("s9(3)v99", "-00150", "s9v9", "-15")
        self.check("s9(3)v99", "-00159", "9v9", "15")
        self.check("s9(3)v99", "+12345", "9", "3")
        self.check("99", "07", "s9(3)v9", "+0070")
        self.check("zz9.99-", "  1.50-", "s9v9", "-15")
        self.check("zz9.99-", "123.45-", "99", "23")
        self.check("**9cr", "**7CR", "s99", "-07")

    def test_309_to_an_edited_field(self):
        self.check(("decimal",), (-123456, 2), "zz,zz9.99-", " 1,234.56-")
        self.check(("decimal",), (-123456, 2), "zz9.9", "234.5")
        self.check(("decimal",), (-123456, 2), "zz9.9cr", "234.5CR")
        self.check(("decimal",), (-5, 2), "+z", "+ ")
        self.check("9v99", "199", "zz9", "  1")
        self.check("s9", "-5", "zz9db", "  5DB")
        self.check("s9", "-5", "zz9", "  5")
        self.check("zz9", " 12", "**9.9", "*12.0")
        self.check("9cr", "5CR", "-9", "-5")

    def test_309_to_a_group(self):
        shape = ("group", (("number", True, 1, 0), ("text", 1)))
        self.assertEqual(moved(shape, "-5a", shape), "-5a")

    def test_309_cut_to(self):
        cases = [("99", (1239, 1), "23"), ("99", (-1239, 1), "23"), ("s99", (-1239, 1), "-23"), ("9v99", (5, 1), "050"),
                 ("9.9", (-1299, 2), "2.9"), ("zz9", (4, 1), "  0"), ("s9", (-4, 1), "+0"), ("9cr", (-19, 0), "9CR")]
        for picture, value, text in cases:
            self.assertEqual(cut_to(parse_picture(picture), value), text, (picture, value))

    def test_309_padded(self):
        cases = [("", 3, "   "), ("a", 3, "a  "), ("abc", 3, "abc"), ("abcd", 3, "abc"), ("  a", 2, "  "), ("abc", 1, "a"), ("", 0, "")]
        for text, size, result in cases:
            self.assertEqual(padded(text, size), result)

    def test_309_figures_of(self):
        cases = [("99", "07", "07"), ("s99", "-07", "07"), ("s99", "+70", "70"), ("9v9", "12", "12"), ("sv9", "-5", "5")]
        for picture, text, figures in cases:
            self.assertEqual(figures_of(parse_picture(picture), text), figures)


class TestStored(unittest.TestCase):
    def test_310_rounded_and_cut_off(self):
        cases = [
            ("9v9", (125, 2), "13", "12"), ("9v9", (124, 2), "12", "12"), ("s9v9", (-125, 2), "-13", "-12"),
            ("s9", (-5, 1), "-1", "+0"), ("9", (5, 1), "1", "0"), ("99", (7, 0), "07", "07"), ("9v99", (5, 1), "050", "050"),
            ("zz9.9-", (-1255, 2), " 12.6-", " 12.5-"), ("9.9", (99, 1), "9.9", "9.9"), ("+z", (4, 1), "+ ", "+ "),
            ("9(18)", (10 ** 18 - 1, 0), "9" * 18, "9" * 18),
        ]
        for picture, value, rounded, cut_off in cases:
            self.assertEqual(stored(parse_picture(picture), value, True), rounded, (picture, value))
            self.assertEqual(stored(parse_picture(picture), value, False), cut_off, (picture, value))

    def test_310_units_that_do_not_suit(self):
        for picture, value in [("9", (10, 0)), ("9", (-1, 0)), ("s9", (-10, 0)), ("s9", (10, 0)), ("9v9", (10, 0)),
                               ("9v9", (-11, 1)), ("zz9", (1000, 0)), ("zz9", (-1, 0)), ("9cr", (-10, 0)), ("9.9", (-1, 1)),
                               ("9(18)", (10 ** 18, 0))]:
            for is_rounded in (True, False):
                self.assertIsNone(stored(parse_picture(picture), value, is_rounded), (picture, value))

    def test_310_after_rounding(self):
        self.assertIsNone(stored(parse_picture("9"), (95, 1), True))
        self.assertEqual(stored(parse_picture("9"), (95, 1), False), "9")
        self.assertIsNone(stored(parse_picture("9"), (-5, 1), True))
        self.assertEqual(stored(parse_picture("9"), (-5, 1), False), "0")
        self.assertEqual(stored(parse_picture("9"), (-4, 1), True), "0")
        self.assertIsNone(stored(parse_picture("z.9"), (995, 2), True))


if __name__ == "__main__":
    unittest.main()
