import random
import unittest

from cardwright.datatext import read_entry
from cardwright.expressions import read_condition, read_expression
from cardwright.parsing import parse
from cardwright.sentences import read_statement
from cardwright.statements import is_program
from cardwright.tokens import Cursor, quoted, tokens
from cardwright.trees import depth_of
from cardwright.writing import condition_text, entry_row, expression_text, statement_rows, text_of
from support import Maker
from test_parsing import PAYROLL, PAYROLL_TREE, PROGRAMS

A, B, C, D = [("ref", (name, ())) for name in "abcd"]
EQUAL = ("compare", "=", A, B)
DIGITS = ("digits", ("d", ()))
OTHER = ("texts", "<>", ("text", "x"), C)
STOP = ("stop",)
CLEAR = ("clear", ("x", ()))


def number(units, scale=0):
    return ("number", (units, scale))


def words_of(text):
    return [quoted(word) if kind == "string" else word for _, kind, word in tokens(text)]


def without_pairs(words, opening, closing):
    """Yield the rows of words that have one pair less of these words."""
    opened = []
    for at, word in enumerate(words):
        if word == opening:
            opened.append(at)
        elif word == closing:
            start = opened.pop()
            # The parentheses of subscripts stay.
            if opening == "[" or start == 0 or words[start - 1] in ["(", "+", "-", "*", "to", "by", "from", "=", "<", ">", "<=", ">=", "<>",
                                                                    "and", "or", "not", "[", "if", "until", "divide"]:
                yield words[:start] + words[start + 1:at] + words[at + 1:]


class Wrapper:
    """Writes expressions and conditions with more parentheses and brackets than they need."""

    def __init__(self, seed):
        self.random = random.Random(seed)

    def wrapped(self, text, opening, closing, is_needed):
        many = self.random.choice([0, 0, 1, 2]) + (1 if is_needed else 0)
        return f"{opening} " * many + text + f" {closing}" * many

    def expression(self, tree, is_needed=False):
        kind = tree[0]
        if kind in ("ref", "number"):
            return self.wrapped(expression_text(tree), "(", ")", False)
        if kind == "negative":
            text = "- " + self.expression(tree[1], tree[1][0] in ("plus", "minus", "times"))
        else:
            sign = {"plus": "+", "minus": "-", "times": "*"}[kind]
            is_product = kind == "times"
            left = self.expression(tree[1], is_product and tree[1][0] in ("plus", "minus"))
            text = f"{left} {sign} {self.expression(tree[2], tree[2][0] in ('plus', 'minus') or is_product and tree[2][0] == 'times')}"
        return self.wrapped(text, "(", ")", is_needed)

    def condition(self, tree, is_needed=False):
        kind = tree[0]
        if kind == "not":
            text = "not " + self.condition(tree[1], tree[1][0] in ("and", "or"))
        elif kind in ("and", "or"):
            left = self.condition(tree[1], kind == "and" and tree[1][0] == "or")
            text = f"{left} {kind} {self.condition(tree[2], tree[2][0] == 'or' or kind == tree[2][0])}"
        elif kind == "compare":
            text = f"{self.expression(tree[2])} {tree[1]} {self.expression(tree[3])}"
        else:
            text = condition_text(tree)
        return self.wrapped(text, "[", "]", is_needed)


class TestExpressions(unittest.TestCase):
    def test_410_plain(self):
        for tree, text in [
            (A, "a"), (number(5), "5"), (number(-5), "-5"), (number(250, 2), "2.50"), (number(-1, 3), "-0.001"), (number(0), "0"),
            (("ref", ("a", (("", 1),))), "a ( 1 )"), (("ref", ("a", (("i", 0),))), "a ( i )"),
            (("ref", ("a", (("i", 3), ("", 50), ("j", -50)))), "a ( i + 3 , 50 , j - 50 )"),
        ]:
            self.assertEqual(expression_text(tree), text)

    def test_410_signs_and_parentheses(self):
        def plus(one, other):
            return ("plus", one, other)

        def minus(one, other):
            return ("minus", one, other)

        def times(one, other):
            return ("times", one, other)

        def negative(one):
            return ("negative", one)

        for tree, text in [
            (plus(A, B), "a + b"), (minus(A, B), "a - b"), (times(A, B), "a * b"), (negative(A), "- a"),
            (plus(plus(A, B), C), "a + b + c"), (plus(A, plus(B, C)), "a + ( b + c )"), (minus(minus(A, B), C), "a - b - c"),
            (minus(A, minus(B, C)), "a - ( b - c )"), (plus(A, minus(B, C)), "a + ( b - c )"), (minus(plus(A, B), C), "a + b - c"),
            (minus(A, plus(B, C)), "a - ( b + c )"), (plus(minus(A, B), C), "a - b + c"),
            (plus(times(A, B), C), "a * b + c"), (plus(A, times(B, C)), "a + b * c"), (minus(A, times(B, C)), "a - b * c"),
            (times(plus(A, B), C), "( a + b ) * c"), (times(A, plus(B, C)), "a * ( b + c )"), (times(minus(A, B), C), "( a - b ) * c"),
            (times(A, minus(B, C)), "a * ( b - c )"), (times(times(A, B), C), "a * b * c"), (times(A, times(B, C)), "a * ( b * c )"),
            (negative(plus(A, B)), "- ( a + b )"), (negative(minus(A, B)), "- ( a - b )"), (negative(times(A, B)), "- ( a * b )"),
            (negative(negative(A)), "- - a"), (negative(number(5)), "- 5"), (negative(number(-5)), "- -5"), (plus(negative(A), B), "- a + b"),
            (plus(A, negative(B)), "a + - b"), (minus(A, negative(B)), "a - - b"), (minus(A, number(-5)), "a - -5"),
            (times(negative(A), B), "- a * b"), (times(A, negative(B)), "a * - b"), (times(A, negative(plus(B, C))), "a * - ( b + c )"),
            (times(plus(A, B), minus(C, D)), "( a + b ) * ( c - d )"), (times(number(2), negative(plus(A, number(1)))), "2 * - ( a + 1 )"),
        ]:
            self.assertEqual(expression_text(tree), text)
            self.assertEqual(read_expression(Cursor(text)), tree)

    def test_409_read_back(self):
        maker = Maker(7)
        wrapper = Wrapper(8)
        for _ in range(500):
            tree = maker.expression(6)
            text = expression_text(tree)
            self.assertEqual(words_of(text), text.split(" "))
            for given in [text, text.replace(" ", "\n"), "  " + text.replace(" ", " \n  ") + " \n", wrapper.expression(tree)]:
                cursor = Cursor(given)
                self.assertEqual(read_expression(cursor), tree, given)
                self.assertTrue(cursor.is_done())

    def test_410_no_pair_too_many(self):
        maker = Maker(9)
        for _ in range(300):
            tree = maker.expression(5)
            for words in without_pairs(expression_text(tree).split(), "(", ")"):
                cursor = Cursor(" ".join(words))
                self.assertNotEqual(read_expression(cursor), tree, words)

    def test_409_the_deepest(self):
        for kind in ["plus", "minus", "times"]:
            left = right = A
            for _ in range(19):
                left, right = (kind, left, B), (kind, B, right)
            for tree in [left, right]:
                self.assertEqual(depth_of(tree), 20)
                self.assertEqual(read_expression(Cursor(expression_text(tree))), tree)
        tree = A
        for at in range(19):
            tree = ("negative", tree) if at % 2 else ("plus", B, tree)
        self.assertEqual(read_expression(Cursor(expression_text(tree))), tree)


class TestConditions(unittest.TestCase):
    def test_410_plain(self):
        for tree, text in [
            (EQUAL, "a = b"), (DIGITS, "digits d"), (OTHER, "text 'x' <> c"), (("compare", "<=", ("plus", A, B), ("negative", C)), "a + b <= - c"),
            (("texts", ">", number(-5, 1), ("text", "it's")), "text -0.5 > 'it''s'"), (("digits", ("a", (("i", 1),))), "digits a ( i + 1 )"),
            (("compare", "=", ("times", A, ("plus", B, C)), number(1)), "a * ( b + c ) = 1"),
        ]:
            self.assertEqual(condition_text(tree), text)
            self.assertEqual(read_condition(Cursor(text)), tree)

    def test_410_words_and_brackets(self):
        def either(one, other):
            return ("or", one, other)

        def both(one, other):
            return ("and", one, other)

        def no(one):
            return ("not", one)

        one, two, three = EQUAL, DIGITS, OTHER
        for tree, text in [
            (no(one), "not a = b"), (no(no(one)), "not not a = b"), (both(one, two), "a = b and digits d"), (either(one, two), "a = b or digits d"),
            (both(both(one, two), three), "a = b and digits d and text 'x' <> c"), (both(one, both(two, three)), "a = b and [ digits d and text 'x' <> c ]"),
            (either(either(one, two), three), "a = b or digits d or text 'x' <> c"),
            (either(one, either(two, three)), "a = b or [ digits d or text 'x' <> c ]"),
            (both(either(one, two), three), "[ a = b or digits d ] and text 'x' <> c"),
            (both(one, either(two, three)), "a = b and [ digits d or text 'x' <> c ]"),
            (either(both(one, two), three), "a = b and digits d or text 'x' <> c"), (either(one, both(two, three)), "a = b or digits d and text 'x' <> c"),
            (no(both(one, two)), "not [ a = b and digits d ]"), (no(either(one, two)), "not [ a = b or digits d ]"),
            (both(no(one), no(two)), "not a = b and not digits d"), (either(no(one), no(two)), "not a = b or not digits d"),
            (no(both(either(one, two), no(three))), "not [ [ a = b or digits d ] and not text 'x' <> c ]"),
        ]:
            self.assertEqual(condition_text(tree), text)
            self.assertEqual(read_condition(Cursor(text)), tree)

    def test_409_read_back(self):
        maker = Maker(10)
        wrapper = Wrapper(11)
        for _ in range(500):
            tree = maker.condition(6)
            words = words_of(condition_text(tree))
            self.assertEqual(" ".join(words), condition_text(tree))
            for given in [" ".join(words), "\n".join(words), "\n  ".join([""] + words) + "  \n", wrapper.condition(tree)]:
                cursor = Cursor(given)
                self.assertEqual(read_condition(cursor), tree, given)
                self.assertTrue(cursor.is_done())

    def test_410_no_pair_too_many(self):
        maker = Maker(12)
        for _ in range(300):
            tree = maker.condition(5)
            for words in without_pairs(words_of(condition_text(tree)), "[", "]"):
                self.assertNotEqual(read_condition(Cursor(" ".join(words))), tree, words)


class TestEntries(unittest.TestCase):
    def test_410_rows(self):
        for entry, row in [
            ((1, "a", None, 0, None), "01 a ."), ((49, "a-1", None, 50, None), "49 a-1 occurs 50 ."), ((5, "a", ("text", 3), 0, None), "05 a picture x(3) ."),
            ((5, "b", ("number", False, 2, 1), 3, None), "05 b picture 9(2)v9(1) occurs 3 ."),
            ((10, "b", ("number", True, 0, 2), 0, (-5, 1)), "10 b picture sv9(2) value -0.5 ."),
            ((10, "b", ("edited", "zz,zz9.99", 5, 2, ".-"), 1, "it's"), "10 b picture zz,zz9.99- occurs 1 value 'it''s' ."),
            ((9, "b", None, 0, " a  b "), "09 b value ' a  b ' ."), ((9, "b", None, 0, (0, 0)), "09 b value 0 ."), ((9, "b", None, 0, "0"), "09 b value '0' ."),
        ]:
            self.assertEqual(entry_row(entry), row)
            self.assertEqual(read_entry(Cursor(row)), entry)

    def test_409_read_back(self):
        maker = Maker(13)
        for _ in range(300):
            entry = maker.entry()
            self.assertEqual(read_entry(Cursor(entry_row(entry))), entry)
            self.assertEqual(" ".join(words_of(entry_row(entry))), entry_row(entry))


class TestStatements(unittest.TestCase):
    def check(self, *rows):
        for statement, expected in rows:
            self.assertEqual(statement_rows(statement), expected)
            self.assertEqual(read_statement(Cursor("\n".join(expected)), depth=1), statement)

    def test_409_plain(self):
        x = ("x", (("i", -1),))
        self.check(
            (("move", A, ("x", ())), ["move a to x ."]), (("move", ("text", "it's"), x), ["move 'it''s' to x ( i - 1 ) ."]),
            (("move", number(-25, 1), ("x", ())), ["move -2.5 to x ."]), (("write", "f"), ["write f ."]), (CLEAR, ["clear x ."]),
            (("clear", x), ["clear x ( i - 1 ) ."]), (STOP, ["stop ."]), (("show", (A,)), ["show a ."]),
            (("show", (A, number(-5), ("text", "a  b"), ("ref", x))), ["show a -5 'a  b' x ( i - 1 ) ."]),
            (("sort", "a", "b", False), ["sort a by b ."]), (("sort", "a", "a", True), ["sort a by a descending ."]),
        )

    def test_410_perform(self):
        self.check(
            (("perform", "p", "p", ("once",)), ["perform p ."]), (("perform", "p", "q", ("once",)), ["perform p thru q ."]),
            (("perform", "p", "p", ("times", number(0))), ["perform p 0 times ."]),
            (("perform", "p", "q", ("times", number(10 ** 18 - 1))), ["perform p thru q 999999999999999999 times ."]),
            (("perform", "p", "p", ("times", ("ref", ("x", (("", 2),))))), ["perform p x ( 2 ) times ."]),
            (("perform", "p", "p", ("until", ("not", EQUAL))), ["perform p until not a = b ."]),
            (("perform", "p", "q", ("varying", ("x", ()), ("plus", A, B), ("negative", C), ("or", EQUAL, DIGITS))),
             ["perform p thru q varying x from a + b by - c until a = b or digits d ."]),
        )

    def test_409_set_and_divide(self):
        x, y = ("x", ()), ("y", (("", 1),))
        self.check(
            (("set", x, False, ("times", A, B), ()), ["set x to a * b ."]), (("set", y, True, A, ()), ["set y ( 1 ) rounded to a ."]),
            (("set", x, False, A, (STOP, CLEAR)), ["set x to a else", "  stop .", "  clear x .", "end ."]),
            (("set", x, True, A, (STOP,)), ["set x rounded to a else", "  stop .", "end ."]),
            (("divide", A, B, x, False, None, ()), ["divide a by b giving x ."]),
            (("divide", ("minus", A, B), C, y, True, None, ()), ["divide a - b by c giving y ( 1 ) rounded ."]),
            (("divide", A, B, x, False, y, ()), ["divide a by b giving x remainder y ( 1 ) ."]),
            (("divide", A, B, x, True, y, (STOP,)), ["divide a by b giving x rounded remainder y ( 1 ) else", "  stop .", "end ."]),
        )

    def test_409_if_and_read(self):
        self.check(
            (("if", EQUAL, (STOP,), ()), ["if a = b then", "  stop .", "end ."]),
            (("if", ("digits", ("a", ())), (STOP, CLEAR), (CLEAR,)), ["if digits a then", "  stop .", "  clear x .", "else", "  clear x .", "end ."]),
            (("read", "f", (), ()), ["read f end ."]), (("read", "f", (STOP,), ()), ["read f at end", "  stop .", "end ."]),
            (("read", "f", (), (STOP,)), ["read f bad", "  stop .", "end ."]),
            (("read", "f", (STOP,), (CLEAR, STOP)), ["read f at end", "  stop .", "bad", "  clear x .", "  stop .", "end ."]),
        )

    def test_409_within(self):
        inner = ("if", DIGITS, (("set", ("x", ()), False, A, (STOP,)), ("read", "g", (), ())), (("read", "f", (STOP,), (CLEAR,)),))
        self.check((("read", "f", (inner,), (inner, STOP)), [
            "read f at end", "  if digits d then", "    set x to a else", "      stop .", "    end .", "    read g end .", "  else",
            "    read f at end", "      stop .", "    bad", "      clear x .", "    end .", "  end .", "bad", "  if digits d then",
            "    set x to a else", "      stop .", "    end .", "    read g end .", "  else", "    read f at end", "      stop .", "    bad",
            "      clear x .", "    end .", "  end .", "  stop .", "end ."]))

    def test_409_read_back(self):
        maker = Maker(14)
        for _ in range(400):
            statement = maker.statement(5)
            rows = statement_rows(statement)
            for given in ["\n".join(rows), " ".join(rows)]:
                cursor = Cursor(given)
                self.assertEqual(read_statement(cursor, depth=1), statement, given)
                self.assertTrue(cursor.is_done())
            for row in rows:
                self.assertNotIn("\n", row)
                self.assertEqual(" ".join(words_of(row)), row.lstrip(" "))


class TestPrograms(unittest.TestCase):
    CANONICAL = [
        "program payroll .", "data .", "  01 hours-row .", "  05 worker picture x(8) .", "  05 hours picture 9(2)v9(1) occurs 2 .",
        "  01 total picture s9(5)v9(2) value -1.5 .", "files .", "  input hours-file record hours-row .", "  output list-file record hours-row .",
        "procedure .", "main .", "  read hours-file at end", "    stop .", "  bad", "    show 'it''s bad' worker .", "  end .",
        "  perform add-up thru add-more until total > 100 and not digits worker .", "add-up .", "add-more .",
        "  set total rounded to total + hours ( 1 ) * 2 else", "    clear total .", "  end .",
    ]

    def test_409_rows(self):
        self.assertEqual(text_of(PAYROLL_TREE), "".join(row + "\n" for row in self.CANONICAL))
        self.assertEqual(text_of(("p", (), (), (("main", ()),))), "program p .\ndata .\nfiles .\nprocedure .\nmain .\n")

    def test_409_one_text(self):
        for text in [PAYROLL, *PROGRAMS]:
            tree = parse(text)
            canonical = text_of(tree)
            self.assertEqual(parse(canonical), tree)
            self.assertEqual(text_of(parse(canonical)), canonical)

    def test_409_read_back(self):
        maker = Maker(15)
        chooser = random.Random(16)
        for _ in range(150):
            tree = maker.program()
            text = text_of(tree)
            self.assertTrue(is_program(tree))
            if len(text) > 40000:
                continue
            self.assertEqual(parse(text), tree)
            self.assertTrue(text.endswith("\n"))
            other = "".join(chooser.choice(["\n", " ", "  ", " \n ", "\n\n"]) + word for word in words_of(text))
            if len(other) <= 40000:
                self.assertEqual(parse(other), tree)

    def test_409_longer_texts_are_written(self):
        tree = ("p", (), (), (("main", (("show", (("text", "x" * 80),)),) * 500),))
        text = text_of(tree)
        self.assertEqual(len(text), 46 + 500 * (2 + 5 + 82 + 3))
        self.assertEqual(len(text.splitlines()), 505)


if __name__ == "__main__":
    unittest.main()
