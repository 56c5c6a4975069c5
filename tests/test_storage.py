import unittest

from cardwright.layout import Layout
from cardwright.pictures import parse_picture
from cardwright.storage import Storage, record_holds


class TestStorage(unittest.TestCase):
    def test_307_read(self):
        storage = Storage("abcdef")
        self.assertEqual(storage.read(0, 6), "abcdef")
        self.assertEqual(storage.read(0, 1), "a")
        self.assertEqual(storage.read(5, 1), "f")
        self.assertEqual(storage.read(2, 3), "cde")
        self.assertEqual(storage.read(3, 0), "")
        self.assertEqual(storage.text(), "abcdef")

    def test_307_write(self):
        storage = Storage("abcdef")
        self.assertIsNone(storage.write(1, "XY"))
        self.assertEqual(storage.text(), "aXYdef")
        storage.write(0, "1")
        storage.write(5, "2")
        self.assertEqual(storage.text(), "1XYde2")
        storage.write(3, "")
        self.assertEqual(storage.text(), "1XYde2")
        storage.write(0, "uvwxyz")
        self.assertEqual(storage.text(), "uvwxyz")
        self.assertEqual(storage.read(2, 2), "wx")

    def test_307_each_for_itself(self):
        one, other = Storage("aaa"), Storage("aaa")
        one.write(0, "b")
        self.assertEqual((one.text(), other.text()), ("baa", "aaa"))

    def test_307_empty(self):
        storage = Storage("")
        self.assertEqual((storage.text(), storage.read(0, 0)), ("", ""))


class TestRecords(unittest.TestCase):
    CELLS = [(0, parse_picture("99")), (2, parse_picture("x(2)")), (4, parse_picture("zz9")), (7, parse_picture("s9"))]

    def test_307_holds(self):
        for text in ["07ab  5+1", "00    100-9", "99~~999+0"]:
            self.assertIs(record_holds(9, self.CELLS, text), len(text) == 9, text)

    def test_307_each_field(self):
        self.assertIs(record_holds(9, self.CELLS, "07ab  5+1"), True)
        for text in [" 7ab  5+1", "07a\n  5+1", "07a" + chr(37) + "  5+1", "07ab005+1", "07ab   +1", "07ab  5 1", "07ab  5-0",
                     "a7ab  5+1"]:
            self.assertIs(record_holds(9, self.CELLS, text), False, text)

    def test_307_size(self):
        for text in ["", "07ab  5+", "07ab  5+1 ", "07ab  5+11"]:
            self.assertIs(record_holds(9, self.CELLS, text), False, text)
        self.assertIs(record_holds(10, self.CELLS, "07ab  5+1"), False)
        self.assertIs(record_holds(8, self.CELLS, "07ab  5+1"), False)

    def test_307_cells_of_a_layout(self):
        entries = [(1, "row", None, 0, None), (2, "cell", ("number", False, 2, 0), 3, (7, 0)), (2, "tail", ("text", 1), 0, None)]
        layout = Layout(entries)
        cells = layout.cells("row")
        self.assertIs(record_holds(7, cells, layout.first_text("row")), True)
        self.assertIs(record_holds(7, cells, "0102 3x"), False)
        self.assertIs(record_holds(7, tuple(cells), "010203x"), True)


if __name__ == "__main__":
    unittest.main()
