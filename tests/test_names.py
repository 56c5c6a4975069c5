import unittest

from cardwright.errors import BadData, BadPart
from cardwright.names import Scope
from cardwright.parsing import parse
from support import part_fault

DATA = """01 row . 05 code picture x . 05 line occurs 3 . 10 many picture 9 . 10 cell picture 9 occurs 2 . 05 last picture 9 occurs 4 .
01 total picture 9 . 01 other . 02 inner . 03 deep picture x ."""


def scope_of(data="01 r picture x .", files="", paragraphs="main ."):
    return Scope(parse(f"program p . data . {data} files . {files} procedure . {paragraphs}"))


class TestData(unittest.TestCase):
    def check_data(self, data, reason, name):
        with self.assertRaises(BadData) as caught:
            scope_of(data, "input f record nothing .", "f .")
        self.assertEqual((caught.exception.reason, caught.exception.name), (reason, name), data)

    def test_501_bad_data(self):
        self.check_data("05 a picture x .", "level", "a")
        self.check_data("01 a . 05 b picture x . 03 c picture x .", "level", "c")
        self.check_data("01 a picture x . 01 a picture x .", "name", "a")
        self.check_data("01 a occurs 2 .", "occurs", "a")
        self.check_data("01 a picture 9 value 'b' .", "value", "a")
        self.check_data("01 a .", "group", "a")
        self.check_data("01 a picture x . 05 b picture x .", "group", "a")
        self.check_data("01 a . 02 b picture x(80) occurs 50 . 02 c picture x .", "size", "")

    def test_501_the_first_fault(self):
        self.check_data("01 a picture x . 01 a picture x . 01 b .", "name", "a")

    def test_501_right_data(self):
        scope_of(DATA)
        scope_of("")
        scope_of("01 a . 02 b picture x(80) occurs 50 .")


class TestNames(unittest.TestCase):
    def check(self, fault, files, paragraphs="main .", data="01 r picture x . 01 g . 05 item picture x . 05 sub . 10 low picture 9 ."):
        self.assertEqual(part_fault(scope_of, data, files, paragraphs), fault)

    def test_502_right(self):
        self.check(None, "")
        self.check(None, "input f record r . output h record r . input k record g .")
        self.check(None, "input f record r .", "main . second . p .")
        # The name of the program does not count.
        self.check(None, "input p record r .")

    def test_502_files(self):
        for name in ["r", "g", "item", "low"]:
            self.check(("name", name), f"input {name} record r .")
            self.check(("name", name), f"input f record r . output {name} record r .")
        self.check(("name", "f"), "input f record r . output f record r .")
        self.check(("name", "f"), "input f record r . input e record g . input f record g .")
        for name in ["nothing", "item", "sub", "low", "f", "main", "p"]:
            self.check(("record", name), f"input f record {name} .")
        self.check(("record", "f"), "input f record r . output h record f .")

    def test_502_order_of_files(self):
        self.check(("name", "item"), "input item record nothing .")
        self.check(("name", "f"), "input f record r . input f record nothing .")
        self.check(("record", "nothing"), "input f record nothing . input f record r .")
        self.check(("record", "nothing"), "input f record r . input h record nothing . input item record r .")

    def test_502_paragraphs(self):
        for name in ["r", "g", "item", "low", "f", "h"]:
            self.check(("name", name), "input f record r . output h record r .", f"{name} .")
            self.check(("name", name), "input f record r . output h record r .", f"main . {name} . other .")
        self.check(("name", "main"), "", "main . main .")
        self.check(("name", "second"), "", "main . second . third . second . main .")

    def test_502_files_come_first(self):
        self.check(("record", "nothing"), "input f record nothing .", "r .")
        self.check(("name", "r"), "input r record r .", "main . main .")

    def test_502_statements_do_not_count(self):
        self.check(None, "", "main . move x to y . perform z . write w .")


class TestScope(unittest.TestCase):
    def setUp(self):
        self.scope = scope_of(DATA, "input in-file record row . output out-file record other .", "main . stop . second . third .")

    def test_503_check_item(self):
        for name in ["row", "code", "line", "cell", "total", "deep"]:
            self.assertIsNone(self.scope.check_item(name))
        for name in ["in-file", "out-file", "main", "third", "p", "nothing", "item", ""]:
            self.assertEqual(part_fault(self.scope.check_item, name), ("unknown", name))

    def test_503_check_file(self):
        self.assertIsNone(self.scope.check_file("in-file", "input"))
        self.assertIsNone(self.scope.check_file("out-file", "output"))
        self.assertEqual(part_fault(self.scope.check_file, "in-file", "output"), ("file", "in-file"))
        self.assertEqual(part_fault(self.scope.check_file, "out-file", "input"), ("file", "out-file"))
        for name in ["row", "code", "main", "third", "p", "nothing", "input"]:
            for kind in ["input", "output"]:
                self.assertEqual(part_fault(self.scope.check_file, name, kind), ("unknown", name))

    def test_503_place_of(self):
        self.assertEqual([self.scope.place_of(name) for name in ["main", "second", "third"]], [0, 1, 2])
        for name in ["row", "code", "in-file", "out-file", "p", "nothing"]:
            self.assertEqual(part_fault(self.scope.place_of, name), ("unknown", name))

    def test_503_is_within(self):
        outers = {"row": ["row"], "code": ["code", "row"], "line": ["line", "row"], "many": ["many", "line", "row"],
                  "cell": ["cell", "line", "row"], "last": ["last", "row"], "total": ["total"], "other": ["other"],
                  "inner": ["inner", "other"], "deep": ["deep", "inner", "other"]}
        for name in outers:
            for outer in outers:
                self.assertIs(self.scope.is_within(name, outer), outer in outers[name], (name, outer))

    def test_503_is_table(self):
        tables = {"row": False, "code": False, "line": True, "many": False, "cell": False, "last": True, "total": False, "deep": False}
        for name, is_table in tables.items():
            self.assertIs(self.scope.is_table(name), is_table, name)
        scope = scope_of("01 a . 02 b occurs 1 . 03 c occurs 1 . 04 d picture x . 02 e picture x occurs 1 .")
        self.assertEqual([scope.is_table(name) for name in "abcde"], [False, True, False, False, True])


if __name__ == "__main__":
    unittest.main()
