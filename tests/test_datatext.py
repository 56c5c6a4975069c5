import unittest

from cardwright.datatext import read_entry, read_file
from cardwright.words import RESERVED
from support import ReadCase

TEXT = ("text", 3)


class TestEntries(ReadCase):
    read = read_entry

    def test_403_parts(self):
        for text, tree in [
            ("01 a .", (1, "a", None, 0, None)), ("49 long-name-of-20-char .", (49, "long-name-of-20-char", None, 0, None)),
            ("05 a picture x(3) .", (5, "a", TEXT, 0, None)), ("05 a occurs 3 .", (5, "a", None, 3, None)),
            ("05 a value 'it''s' .", (5, "a", None, 0, "it's")), ("05 a value -1.50 .", (5, "a", None, 0, (-15, 1))),
            ("05 a picture xxx occurs 50 .", (5, "a", TEXT, 50, None)), ("05 a picture x(3) value 0 .", (5, "a", TEXT, 0, (0, 0))),
            ("05 a occurs 1 value '5' .", (5, "a", None, 1, "5")),
            ("10 b picture s9(3)v99 occurs 20 value 7 .", (10, "b", ("number", True, 3, 2), 20, (7, 0))),
            ("05 b picture 99v9 occurs 3 .", (5, "b", ("number", False, 2, 1), 3, None)),
            ("05 b picture zz,zz9.99- .", (5, "b", ("edited", "zz,zz9.99", 5, 2, ".-"), 0, None)),
        ]:
            self.check_tree(text, tree, "")
            self.check_tree(text, tree, "05 a .")

    def test_403_order_of_the_parts(self):
        self.check_read_fault("05 a occurs 3 picture", "word")
        self.check_read_fault("05 a value 3 occurs", "word")
        self.check_read_fault("05 a value 3 picture", "word")
        self.check_read_fault("05 a picture x picture", "word")
        self.check_read_fault("05 a occurs 3 occurs", "word")
        self.check_read_fault("05 a value 'b' value", "word")
        self.check_read_fault("05 picture", "word")

    def test_404_levels(self):
        for level in range(1, 50):
            self.check_tree(f"{level:02} a .", (level, "a", None, 0, None))
        for word in ["00", "50", "99", "1", "5", "0", "001", "010", "049", "1" * 30]:
            self.check_read_fault(word, "value")
        for word in ["a", ".", "files", "-1", "01a", "0a", "'01'", "''", "+1", "1.", "-01"]:
            self.check_read_fault(word, "word")

    def test_404_names(self):
        for word in ["A", "5", "a-", "-a", "a.", ".", "a" * 21, "'a'", "''"] + list(RESERVED):
            self.check_read_fault("01 " + word, "word")

    def test_404_pictures(self):
        for word in ["x9", ".", "5", "value", "occurs", "9(19)", "x(81)", "x(0)", "X", "-9-", "picture", "zz9.", "9v", "a", "-5"]:
            self.check_read_fault("01 a picture " + word, "picture")
        for word in ["'x'", "''"]:
            self.check_read_fault("01 a picture " + word, "word")

    def test_404_occurs(self):
        for word in ["0", "51", "01", "00", "007", "1" * 18, "1" * 19]:
            self.check_read_fault("01 a occurs " + word, "value")
            self.check_read_fault("01 a picture x occurs " + word, "value")
        for word in ["-1", "1.0", "1x", "a", ".", "'1'", "''", "value", "+1"]:
            self.check_read_fault("01 a occurs " + word, "word")

    def test_404_values(self):
        for text, value in [("'" + "b" * 80 + "'", "b" * 80), ("'a'", "a"), ("'''b'", "'b"), ("1.0", (1, 0)), ("-0", (0, 0)),
                            ("9" * 18, (10 ** 18 - 1, 0)), ("-0." + "0" * 16 + "1", (-1, 17))]:
            self.check_tree(f"01 a value {text} .", (1, "a", None, 0, value))
        for word in ["''", "'" + "b" * 81 + "'", "05", "00", "-x", "-05", "5.", "5x", "1" * 19, "0." + "0" * 18, "--5"]:
            self.check_read_fault("01 a value " + word, "value")
        for word in ["a", ".", "-", "+5", ".5", "occurs", "(", "A"]:
            self.check_read_fault("01 a value " + word, "word")

    def test_405_words_behind(self):
        for ahead in ["01 a", "01 a picture x", "01 a occurs 2", "01 a value 'b'", "01 a value 5"]:
            for word in ["b", "5", "-5", "'b'", "''", "files", "..", "A"]:
                self.check_read_fault(ahead + " " + word, "word")

    def test_405_the_end(self):
        self.check_no_tokens()
        for text in ["01", "01 a", "01 a picture", "01 a picture x", "01 a occurs", "01 a occurs 2", "01 a value", "01 a value 'b'",
                     "01 a picture x occurs 2 value 5"]:
            self.check_read_fault(text, "end")


class TestFiles(ReadCase):
    read = read_file

    def test_403_files(self):
        self.check_tree("input f record r .", ("input", "f", "r"))
        self.check_tree("output f record r .", ("output", "f", "r"), "input")
        self.check_tree("output f record f .", ("output", "f", "f"), "a b")

    def test_405_words(self):
        for word in ["f", ".", "5", "'input'", "record", "Input", "procedure"]:
            self.check_read_fault(word, "word")
        for word in ["F", ".", "5", "'f'", "''", "a-", "a" * 21] + list(RESERVED):
            self.check_read_fault("input " + word, "word")
            self.check_read_fault("output f record " + word, "word")
        for word in ["r", ".", "5", "'record'", "records", "output"]:
            self.check_read_fault("input f " + word, "word")
        for word in ["r", "5", "'.'", "record", "..", "''"]:
            self.check_read_fault("input f record r " + word, "word")

    def test_405_the_end(self):
        self.check_no_tokens()
        for text in ["input", "input f", "output f record", "input f record r"]:
            self.check_read_fault(text, "end")


if __name__ == "__main__":
    unittest.main()
