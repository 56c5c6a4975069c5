import unittest

from cardwright.files import Files

FILES = (("input", "first", "row"), ("output", "list", "line"), ("input", "second", "row"), ("output", "more", "row"))
CELLS = ((0, ("number", False, 2, 0)), (2, ("text", 3)))


class TestFiles(unittest.TestCase):
    def test_611_lines(self):
        files = Files(FILES, {"first": ("12abc", "12a", "12", "1", "", "12abcd", "12abc ", "1xabc", "12 \t ", "99   "), "second": ()})
        found = [files.read("first", 5, CELLS) for _ in range(12)]
        self.assertEqual(found, [
            ("line", "12abc"), ("line", "12a  "), ("line", "12   "), ("bad", ""), ("bad", ""), ("bad", ""), ("bad", ""), ("bad", ""),
            ("bad", ""), ("line", "99   "), ("end", ""), ("end", "")])

    def test_611_each_file_by_itself(self):
        files = Files(FILES, {"first": ("11", "22"), "second": ("33", "x", "44")})
        self.assertEqual(files.read("second", 5, CELLS), ("line", "33   "))
        self.assertEqual(files.read("first", 5, CELLS), ("line", "11   "))
        self.assertEqual(files.read("second", 5, CELLS), ("bad", ""))
        self.assertEqual(files.read("second", 5, CELLS), ("line", "44   "))
        self.assertEqual(files.read("second", 5, CELLS), ("end", ""))
        self.assertEqual(files.read("first", 5, CELLS), ("line", "22   "))
        self.assertEqual(files.read("first", 5, CELLS), ("end", ""))

    def test_611_a_text_field(self):
        files = Files(FILES, {"first": ("", "abc", "abcd", "a\n"), "second": ()})
        found = [files.read("first", 3, [(0, ("text", 3))]) for _ in range(5)]
        self.assertEqual(found, [("line", "   "), ("line", "abc"), ("bad", ""), ("bad", ""), ("end", "")])

    def test_602_outputs(self):
        files = Files(FILES, {"first": (), "second": ()})
        self.assertEqual(files.outputs(), (("list", ()), ("more", ())))
        self.assertIsNone(files.write("more", "one"))
        files.write("list", "two")
        files.write("more", "")
        self.assertEqual(files.outputs(), (("list", ("two",)), ("more", ("one", ""))))
        files.write("list", "three")
        self.assertEqual(files.outputs(), (("list", ("two", "three")), ("more", ("one", ""))))
        self.assertEqual(Files((), {}).outputs(), ())
        self.assertEqual(Files(FILES[:1], {"first": ()}).outputs(), ())
        self.assertEqual(Files((("output", "b", "r"), ("output", "a", "r")), {}).outputs(), (("b", ()), ("a", ())))

    def test_602_shown(self):
        files = Files(FILES, {"first": (), "second": ()})
        self.assertEqual(files.shown, [])
        self.assertIsNone(files.show("one"))
        files.show("")
        self.assertEqual(files.shown, ["one", ""])
        self.assertEqual(Files(FILES, {"first": (), "second": ()}).shown, [])

    def test_record_of(self):
        files = Files(FILES, {"first": (), "second": ()})
        self.assertEqual([files.record_of(name) for name in ("first", "list", "second", "more")], ["row", "line", "row", "row"])

    def test_3_what_is_passed_stays(self):
        lines = {"first": ("11", "22"), "second": ("x",)}
        cells = list(CELLS)
        for _ in range(2):
            files = Files(FILES, lines)
            self.assertEqual(files.read("first", 5, cells), ("line", "11   "))
            files.read("second", 5, cells)
            files.write("list", "a")
            self.assertEqual(files.outputs()[0], ("list", ("a",)))
        self.assertEqual(lines, {"first": ("11", "22"), "second": ("x",)})
        self.assertEqual(cells, list(CELLS))


if __name__ == "__main__":
    unittest.main()
