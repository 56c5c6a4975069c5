import unittest

from cardwright.expressions import read_condition, read_expression, read_reference
from cardwright.kinds import check_condition, check_expression, check_reference
from cardwright.names import Scope
from cardwright.parsing import parse
from cardwright.tokens import Cursor
from support import part_fault

SCOPE = Scope(parse("""program p . data .
01 row . 05 code picture x(3) . 05 line occurs 3 . 10 cell picture 9 occurs 2 . 10 word picture x . 10 mask picture zz9 .
  10 part . 15 low picture s9v99 .
01 i picture 99 . 01 signed picture s9 . 01 tenth picture 9v9 . 01 only-tenth picture v9 . 01 edit picture z9 . 01 name picture x .
01 tab . 05 entry picture 9 occurs 4 . 05 j picture 9(18) .
01 most picture v9(18) . 01 some picture v9(6) . 01 seven picture v9(7) .
files . input f record row . procedure . main ."""))


class TestReferences(unittest.TestCase):
    def check(self, text, fault):
        self.assertEqual(part_fault(check_reference, SCOPE, read_reference(Cursor(text))), fault, text)

    def test_504_kinds(self):
        for text, kind in [
            ("row", "group"), ("code", "text"), ("line ( 1 )", "group"), ("cell ( 3 , 2 )", "number"), ("word ( 2 )", "text"),
            ("mask ( 2 )", "edited"), ("part ( 3 )", "group"), ("low ( i )", "number"), ("i", "number"), ("signed", "number"), ("tenth", "number"),
            ("edit", "edited"), ("tab", "group"), ("entry ( 4 )", "number"), ("j", "number"), ("line ( i + 50 )", "group"),
            ("cell ( i - 50 , j + 1 )", "number"), ("entry ( i )", "number"),
        ]:
            self.assertEqual(check_reference(SCOPE, read_reference(Cursor(text))), kind, text)

    def test_504_unknown(self):
        for name in ["f", "main", "p", "nothing"]:
            self.check(name, ("unknown", name))
            self.check(name + " ( 1 )", ("unknown", name))

    def test_504_subscripts(self):
        for text in ["row ( 1 )", "i ( 1 )", "code ( i )", "line", "line ( 1 , 1 )", "cell", "cell ( 1 )", "cell ( 1 , 1 , 1 )", "low",
                     "low ( 1 , 1 )", "word", "entry", "entry ( 1 , 2 )", "tab ( 1 )"]:
            self.check(text, ("subscripts", text.split()[0]))

    def test_504_range(self):
        for text in ["line ( 4 )", "line ( 50 )", "cell ( 4 , 1 )", "cell ( 1 , 3 )", "cell ( i , 3 )", "low ( 4 )", "entry ( 5 )"]:
            self.check(text, ("range", text.split()[0]))
        for text in ["line ( 3 )", "cell ( 3 , 2 )", "entry ( 4 )", "entry ( i + 5 )", "entry ( i - 5 )"]:
            self.check(text, None)

    def test_504_fields(self):
        for field in ["nothing", "main", "f", "p"]:
            self.check(f"line ( {field} )", ("unknown", field))
            self.check(f"cell ( 1 , {field} - 2 )", ("unknown", field))
        for field in ["signed", "tenth", "only-tenth", "edit", "name", "row", "tab", "line", "entry", "cell", "low", "code", "most"]:
            self.check(f"line ( {field} )", ("subscript", field))
            self.check(f"cell ( 1 , {field} + 2 )", ("subscript", field))

    def test_504_order(self):
        self.check("nothing ( nothing , signed )", ("unknown", "nothing"))
        self.check("cell ( nothing )", ("subscripts", "cell"))
        self.check("cell ( 4 , nothing )", ("range", "cell"))
        self.check("cell ( nothing , 3 )", ("unknown", "nothing"))
        self.check("cell ( signed , nothing )", ("subscript", "signed"))
        self.check("cell ( i , tenth )", ("subscript", "tenth"))
        self.check("line ( 4 , 4 )", ("subscripts", "line"))


class TestExpressions(unittest.TestCase):
    def check(self, text, fault):
        self.assertEqual(part_fault(check_expression, SCOPE, read_expression(Cursor(text))), fault, text)

    def test_505_numbers(self):
        for text in ["5", "i", "signed * tenth - cell ( 1 , i )", "- ( i + -2.5 ) * j", "entry ( 4 )", "low ( 1 )"]:
            self.check(text, None)
        for name in ["row", "code", "edit", "name", "tab"]:
            self.check(name, ("number", name))
            self.check(f"i + - ( 2 * {name} )", ("number", name))
        self.check("mask ( 1 )", ("number", "mask"))
        self.check("word ( 1 )", ("number", "word"))

    def test_505_left_to_right(self):
        self.check("nothing + code", ("unknown", "nothing"))
        self.check("code + nothing", ("number", "code"))
        self.check("i * ( code - nothing ) + edit", ("number", "code"))
        self.check("line ( 4 ) + code", ("range", "line"))
        self.check("code * line ( 4 )", ("number", "code"))
        # The reference itself comes ahead of its kind.
        self.check("code ( 1 )", ("subscripts", "code"))
        self.check("word ( nothing )", ("unknown", "nothing"))
        self.check("- code - name", ("number", "code"))

    def test_505_scale(self):
        self.check("most * most * most * some", None)
        self.check("most * most * most * seven", ("scale", ""))
        self.check("most * most * most * 0.000001", None)
        self.check("most * most * most * 0.0000001", ("scale", ""))
        self.check("- ( most * most * most * some )", None)
        self.check("most * most * most * some + seven", None)
        self.check("most + most * most * most * seven", ("scale", ""))
        self.check("1 - most * most * most * seven", ("scale", ""))
        self.check("most * most * most * - seven", ("scale", ""))
        self.check("( most + i ) * ( most - 2 ) * ( tenth + most ) * some", None)
        self.check("( most + i ) * ( most - 2 ) * ( i - most ) * seven", ("scale", ""))
        self.check("most * most * most * i * j * 5", None)
        self.check("most * most + most * most + most * most", None)

    def test_505_scale_behind_the_references(self):
        self.check("most * most * most * seven + code", ("number", "code"))
        self.check("most * most * most * seven + nothing", ("unknown", "nothing"))
        self.check("most * most * most * seven + line ( 4 )", ("range", "line"))

    def test_505_trees_with_long_scales(self):
        number = ("number", (1, 17))
        tree = number
        for _ in range(3):
            tree = ("times", tree, number)
        self.assertEqual(part_fault(check_expression, SCOPE, tree), ("scale", ""))
        self.assertIsNone(check_expression(SCOPE, tree[1]))


class TestConditions(unittest.TestCase):
    LONG = "most * most * most * seven"

    def check(self, text, fault):
        self.assertEqual(part_fault(check_condition, SCOPE, read_condition(Cursor(text))), fault, text)

    def test_506_right(self):
        for text in ["i = 5", "text code = 'a'", "text edit < row", "text line ( 1 ) = part ( i )", "digits row", "digits i", "digits line ( 2 )",
                     "digits edit", "not i = 1 and [ text 'a' = name or digits code ]", "text 'a' = 'b'", "text mask ( 3 ) <> name"]:
            self.check(text, None)

    def test_506_returns_none(self):
        self.assertIsNone(check_condition(SCOPE, read_condition(Cursor("i = 5 and not digits code"))))
        self.assertIsNone(check_expression(SCOPE, read_expression(Cursor("i + 5"))))

    def test_506_compare(self):
        self.check("code = i", ("number", "code"))
        self.check("i = code", ("number", "code"))
        self.check("i = nothing", ("unknown", "nothing"))
        self.check("edit = nothing", ("number", "edit"))
        self.check(f"{self.LONG} = code", ("scale", ""))
        self.check(f"code = {self.LONG}", ("number", "code"))
        self.check(f"i = {self.LONG}", ("scale", ""))

    def test_506_texts(self):
        for decimal in ["5", "-0.5", "0"]:
            self.check(f"text {decimal} = code", ("text", ""))
            self.check(f"text code = {decimal}", ("text", ""))
        for number in ["i", "signed", "tenth", "j"]:
            self.check(f"text {number} = code", ("text", number))
            self.check(f"text 'a' = {number}", ("text", number))
        self.check("text cell ( 1 , 1 ) = code", ("text", "cell"))
        self.check("text cell ( 1 ) = code", ("subscripts", "cell"))
        self.check("text cell ( 4 , 1 ) = code", ("range", "cell"))
        self.check("text nothing = 5", ("unknown", "nothing"))
        self.check("text 5 = nothing", ("text", ""))
        self.check("text code = nothing", ("unknown", "nothing"))
        self.check("text i = nothing", ("text", "i"))

    def test_506_digits(self):
        self.check("digits nothing", ("unknown", "nothing"))
        self.check("digits line", ("subscripts", "line"))
        self.check("digits line ( 4 )", ("range", "line"))
        self.check("digits line ( name )", ("subscript", "name"))
        self.check("digits main", ("unknown", "main"))

    def test_506_left_to_right(self):
        for word in ["and", "or"]:
            self.check(f"digits code {word} code = 1", ("number", "code"))
            self.check(f"name = 1 {word} code = 1", ("number", "name"))
            self.check(f"text 5 = 'a' {word} digits nothing", ("text", ""))
            self.check(f"digits nothing {word} text 5 = 'a'", ("unknown", "nothing"))
            self.check(f"[ i = 1 {word} not name = 1 ] {word} code = 1", ("number", "name"))
            self.check(f"i = 1 {word} [ i = 1 {word} [ i = 1 {word} name = 1 ] ]", ("number", "name"))
        self.check("not code = 1", ("number", "code"))
        self.check("not [ i = 1 and not digits line ]", ("subscripts", "line"))

    def test_506_scale_of_each_expression(self):
        self.check("most * most * most * some = most * most", None)
        self.check(f"i = 1 and {self.LONG} = 1 or digits nothing", ("scale", ""))


if __name__ == "__main__":
    unittest.main()
