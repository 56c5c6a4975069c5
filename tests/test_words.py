import unittest

from cardwright.words import RESERVED, are_figures, is_integer, is_name, is_printable

IN_ORDER = """program data files procedure picture occurs value input output record move to set rounded
else end divide by giving remainder if then perform thru times until varying from read at bad write show
sort descending clear stop not and or digits text""".split()

OTHER_KINDS = [None, True, False, 0, 1, 1.5, b"a", b"7", ["a"], ("a",), {"a": 1}, {"a"}, object(), len]


class TestIntegers(unittest.TestCase):
    def test_100_range(self):
        for value in range(-5, 6):
            self.assertIs(is_integer(value, -2, 3), -2 <= value <= 3)
        self.assertIs(is_integer(10 ** 40, 0, 10 ** 40), True)
        self.assertIs(is_integer(10 ** 40 + 1, 0, 10 ** 40), False)

    def test_100_booleans_are_no_integers(self):
        self.assertIs(is_integer(True, 0, 5), False)
        self.assertIs(is_integer(False, 0, 5), False)
        self.assertIs(is_integer(1, 0, 5), True)
        self.assertIs(is_integer(0, 0, 5), True)

    def test_100_other_kinds(self):
        for value in [None, 1.0, "1", "", b"1", [1], (1,), {1: 1}, {1}, object(), 1j]:
            self.assertIs(is_integer(value, 0, 5), False)


class TestPrintable(unittest.TestCase):
    def test_100_each_character(self):
        for code in range(0, 400):
            self.assertIs(is_printable(chr(code)), 32 <= code <= 126 and code != 37, code)
            self.assertIs(is_printable("a" + chr(code) + "b"), 32 <= code <= 126 and code != 37, code)

    def test_100_strings(self):
        self.assertIs(is_printable(""), True)
        self.assertIs(is_printable(" ~ it's {fine}"), True)
        self.assertIs(is_printable("50" + chr(37)), False)
        self.assertIs(is_printable(chr(37) + "abc"), False)
        self.assertIs(is_printable("a\nb"), False)
        self.assertIs(is_printable("\u00e4"), False)
        self.assertIs(is_printable("\U0001f600"), False)

    def test_100_other_kinds(self):
        for value in OTHER_KINDS + [["a", "b"], ("a", "b"), []]:
            self.assertIs(is_printable(value), False)


class TestFigures(unittest.TestCase):
    def test_100_figures(self):
        for code in range(0, 300):
            self.assertIs(are_figures(chr(code)), 48 <= code <= 57, code)
            self.assertIs(are_figures("1" + chr(code)), 48 <= code <= 57, code)
            self.assertIs(are_figures(chr(code) + "1"), 48 <= code <= 57, code)

    def test_100_strings(self):
        self.assertIs(are_figures(""), False)
        self.assertIs(are_figures("0123456789"), True)
        self.assertIs(are_figures("0" * 500), True)
        for text in ["-1", "1.5", " 1", "1 ", "+1", "1_0", "\u0661", "\u00b2", "1\n"]:
            self.assertIs(are_figures(text), False, text)

    def test_100_other_kinds(self):
        for value in OTHER_KINDS + [["1", "2"], ("1",), []]:
            self.assertIs(are_figures(value), False)


class TestNames(unittest.TestCase):
    def test_103_names(self):
        for name in ["a", "z", "a1", "a-1", "total-of-x", "a--b", "x9", "end-of-file", "texts", "en", "end1"]:
            self.assertIs(is_name(name), True, name)

    def test_103_lengths(self):
        self.assertIs(is_name(""), False)
        self.assertIs(is_name("a" * 20), True)
        self.assertIs(is_name("a" * 21), False)
        self.assertIs(is_name("a" + "-" * 18 + "1"), True)

    def test_103_ends(self):
        for name in ["-a", "a-", "-", "--", "1a", "1", "0", "9z"]:
            self.assertIs(is_name(name), False, name)

    def test_103_characters(self):
        allowed = "abcdefghijklmnopqrstuvwxyz0123456789-"
        for code in range(0, 300):
            self.assertIs(is_name("a" + chr(code) + "b"), chr(code) in allowed, code)
            self.assertIs(is_name(chr(code)), "a" <= chr(code) <= "z", code)
            self.assertIs(is_name(chr(code) + "b"), "a" <= chr(code) <= "z", code)
            self.assertIs(is_name("q" + chr(code)), chr(code) in allowed[:-1], code)

    def test_103_reserved_words_are_no_names(self):
        for word in IN_ORDER:
            self.assertIs(is_name(word), False, word)
            self.assertIs(is_name(word + "x"), True, word)
            self.assertIs(is_name("x" + word), True, word)

    def test_103_reserved(self):
        self.assertIsInstance(RESERVED, tuple)
        self.assertEqual(RESERVED, tuple(IN_ORDER))
        self.assertEqual(len(RESERVED), 42)

    def test_103_other_kinds(self):
        for value in OTHER_KINDS + [["a", "b"], []]:
            self.assertIs(is_name(value), False)


if __name__ == "__main__":
    unittest.main()
