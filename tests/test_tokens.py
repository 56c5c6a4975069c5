import unittest

from cardwright.tokens import Cursor, quoted, tokens
from cardwright.words import RESERVED
from support import FaultCase

PERCENT = chr(37)


def words(*rows):
    return [(line, "word", word) for line, word in rows]


class TestTokens(FaultCase):
    def test_401_words(self):
        self.assertEqual(tokens("a b"), words((1, "a"), (1, "b")))
        self.assertEqual(tokens("move -5 to a.b (2,"), words((1, "move"), (1, "-5"), (1, "to"), (1, "a.b"), (1, "(2,")))
        self.assertEqual(tokens("A~z"), words((1, "A~z")))
        self.assertEqual(tokens('"a b"'), words((1, '"a'), (1, 'b"')))

    def test_401_spaces_and_newlines(self):
        self.assertEqual(tokens(""), [])
        for text in [" ", "\n", " \n \n\n  "]:
            self.assertEqual(tokens(text), [])
        self.assertEqual(tokens("  a   b  "), words((1, "a"), (1, "b")))
        self.assertEqual(tokens("\n\na\n b\n\n\n  c \n"), words((3, "a"), (4, "b"), (7, "c")))
        self.assertEqual(tokens("a\nb"), words((1, "a"), (2, "b")))
        self.assertEqual(tokens("\na"), words((2, "a")))

    def test_401_strings(self):
        cases = [("'a'", "a"), ("'it''s'", "it's"), ("''", ""), ("''''", "'"), ("''''''", "''"), ("' '", " "), ("' a  b '", " a  b "),
                 ("'''a'", "'a"), ("'a'''", "a'"), ("'a''''b'", "a''b"), ("'word . 5'", "word . 5"), ("'\"'", '"')]
        for text, string in cases:
            self.assertEqual(tokens(text), [(1, "string", string)], text)
            self.assertEqual(tokens(" \n " + text + " \n"), [(2, "string", string)], text)

    def test_401_strings_among_words(self):
        self.assertEqual(tokens("move 'it''s'\n to a ."), [(1, "word", "move"), (1, "string", "it's"), (2, "word", "to"),
                                                          (2, "word", "a"), (2, "word", ".")])
        self.assertEqual(tokens("'a' 'b'  '' c\n'd'"), [(1, "string", "a"), (1, "string", "b"), (1, "string", ""),
                                                       (1, "word", "c"), (2, "string", "d")])
        self.assertEqual(tokens("x 'a b' y"), [(1, "word", "x"), (1, "string", "a b"), (1, "word", "y")])

    def test_401_quoted(self):
        cases = [("", "''"), ("a", "'a'"), ("it's", "'it''s'"), ("'", "''''"), ("''", "''''''"), (" a b ", "' a b '")]
        for string, text in cases:
            self.assertEqual(quoted(string), text)
            self.assertEqual(tokens(quoted(string)), [(1, "string", string)])

    def test_402_size(self):
        self.assertEqual(tokens("a" * 40000), words((1, "a" * 40000)))
        self.assertEqual(tokens("\n" * 39999 + "a"), words((40000, "a")))
        self.check_fault(0, "size", tokens, "a" * 40001)
        self.check_fault(0, "size", tokens, " " * 40001)
        self.check_fault(0, "size", tokens, "\n" * 40001)

    def test_402_character(self):
        for code in list(range(0, 10)) + list(range(11, 32)) + [37, 127, 128, 160, 228, 0x2028, 0x1f600]:
            self.check_fault(1, "character", tokens, "a" + chr(code))
            self.check_fault(3, "character", tokens, "a\n\n b" + chr(code) + "\n" + chr(code))
            self.check_fault(2, "character", tokens, "\n'" + chr(code) + "'")
        for code in [10] + [code for code in range(32, 127) if code not in (37, 39)]:
            tokens("a" + chr(code) + "b")

    def test_402_quote_not_closed(self):
        for text in ["'", "'a", "'''", "'a''", "'a b", "'''''", "a '", " 'a", " '", "b 'a  "]:
            self.check_fault(1, "quote", tokens, text)
            self.check_fault(2, "quote", tokens, "a\n" + text + "\n'")
        self.check_fault(1, "quote", tokens, "'a\nb'")
        self.check_fault(2, "quote", tokens, "'a'\n'\n'")

    def test_402_behind_the_closing_quote(self):
        for text in ["'a'b", "'a'.", "''a", "'a'\"", "'a'''b'c", "'a',"]:
            self.check_fault(1, "quote", tokens, text)
            self.check_fault(3, "quote", tokens, "\n\n" + text + " 'b' \n")

    def test_402_quote_in_a_word(self):
        for text in ["it's", "a'", "a''", "a'b'", "-'a'", ".'", "a 'b' c'd"]:
            self.check_fault(1, "quote", tokens, text)
            self.check_fault(2, "quote", tokens, "a 'b'\n" + text)

    def test_402_first_line_with_a_fault(self):
        self.check_fault(2, "quote", tokens, "a\nb'\n'c\n'd'e")
        self.check_fault(2, "quote", tokens, "a\n'b\nc'\n'd'e")
        self.check_fault(2, "quote", tokens, "a\n'd'e\nc'\n'b")

    def test_402_order(self):
        self.check_fault(0, "size", tokens, PERCENT + "'" + "a" * 40000)
        self.check_fault(3, "character", tokens, "'\na'\n" + PERCENT)
        self.check_fault(1, "character", tokens, "'" + PERCENT)
        self.check_fault(2, "character", tokens, "it's\n\t\n" + PERCENT)


class TestCursor(FaultCase):
    TEXT = "\nmove 'it''s'\n\nto a-1 -2.50 ''\n 07 7 ."

    def test_402_making_it(self):
        self.check_fault(0, "size", Cursor, "a" * 40001)
        self.check_fault(2, "character", Cursor, "a\n" + PERCENT)
        self.check_fault(1, "quote", Cursor, "it's")

    def check_place(self, cursor, row, row_behind, peek, is_done):
        found = (cursor.row, cursor.row_behind, cursor.peek(), cursor.is_done())
        self.assertEqual(found, (row, row_behind, peek, is_done))
        self.assertIs(type(cursor.is_done()), bool)

    def test_404_from_the_beginning_to_the_end(self):
        cursor = Cursor(self.TEXT)
        self.check_place(cursor, 2, 1, "move", False)
        self.assertIs(cursor.accept("move"), True)
        self.check_place(cursor, 2, 2, "", False)
        self.assertEqual(cursor.take_string(), "it's")
        self.check_place(cursor, 4, 2, "to", False)
        self.assertIsNone(cursor.expect("to"))
        self.check_place(cursor, 4, 4, "a-1", False)
        self.assertEqual(cursor.take_name(), "a-1")
        self.check_place(cursor, 4, 4, "-2.50", False)
        self.assertEqual(cursor.take_decimal(), (-25, 1))
        self.check_place(cursor, 4, 4, "", False)
        self.check_fault(4, "value", cursor.take_string)
        cursor = Cursor(" 07 7 \n.\n\n")
        self.assertIs(cursor.accept("07"), True)
        self.check_place(cursor, 1, 1, "7", False)
        self.assertEqual(cursor.take_integer(greatest=7), 7)
        self.check_place(cursor, 2, 1, ".", False)
        self.assertIsNone(cursor.expect("."))
        self.check_place(cursor, 2, 2, "", True)

    def test_404_no_token(self):
        for text in ["", " ", "\n\n \n"]:
            cursor = Cursor(text)
            self.check_place(cursor, 1, 1, "", True)
            self.assertIs(cursor.accept("a"), False)
            for take in [cursor.take_name, cursor.take_decimal, cursor.take_string]:
                self.check_fault(1, "end", take)
            self.check_fault(1, "end", cursor.take_integer, greatest=5)
            self.check_fault(1, "end", cursor.expect, "a")
            self.assertIsNone(cursor.expect())
            self.check_place(cursor, 1, 1, "", True)

    def test_405_the_end(self):
        cursor = Cursor("a\n\nb\n\n\n")
        cursor.expect("a", "b")
        self.check_place(cursor, 3, 3, "", True)
        for take in [cursor.take_name, cursor.take_decimal, cursor.take_string]:
            self.check_fault(3, "end", take)
        self.check_fault(3, "end", cursor.take_integer, greatest=5)
        self.check_fault(3, "end", cursor.expect, "a")
        self.check_fault(3, "end", cursor.expect, "a", "b")
        self.assertIs(cursor.accept("b"), False)
        self.check_place(cursor, 3, 3, "", True)

    def test_404_peek(self):
        self.assertEqual(Cursor("move").peek(), "move")
        self.assertEqual(Cursor("'move'").peek(), "")
        self.assertEqual(Cursor("''").peek(), "")
        cursor = Cursor("a b")
        self.assertEqual([cursor.peek(), cursor.peek()], ["a", "a"])

    def test_404_accept(self):
        cursor = Cursor("a\nb 'c'")
        self.assertIs(cursor.accept("b"), False)
        self.assertIs(cursor.accept("A"), False)
        self.check_place(cursor, 1, 1, "a", False)
        self.assertIs(cursor.accept("a"), True)
        self.assertIs(cursor.accept("a"), False)
        self.assertIs(cursor.accept("b"), True)
        self.assertIs(cursor.accept("c"), False)
        self.check_place(cursor, 2, 2, "", False)
        self.assertEqual(cursor.take_string(), "c")
        self.assertIs(cursor.accept("c"), False)

    def test_405_expect(self):
        cursor = Cursor("data\n.\n'x'")
        self.assertIsNone(cursor.expect("data", "."))
        self.check_fault(3, "word", cursor.expect, "x")
        self.assertEqual(cursor.take_string(), "x")
        self.check_fault(1, "word", Cursor("data .").expect, "files")
        self.check_fault(1, "word", Cursor("5").expect, ".")

    def test_405_expect_keeps_what_it_has_taken(self):
        cursor = Cursor("a\nb\nc\nd")
        self.check_fault(3, "word", cursor.expect, "a", "b", "x", "d")
        self.check_place(cursor, 3, 2, "c", False)
        self.check_fault(4, "end", cursor.expect, "c", "d", "e")
        self.check_place(cursor, 4, 4, "", True)

    def check_refused(self, text, reason, take, **named):
        """Check a fault at the second token, on line 2; the cursor stays ahead of it."""
        cursor = Cursor("first\n" + text)
        cursor.expect("first")
        peeked = cursor.peek()
        self.check_fault(2, reason, getattr(cursor, take), **named)
        self.check_place(cursor, 2, 1, peeked, False)

    def test_404_take_name(self):
        for name in ["a", "a-1", "z" * 20]:
            self.assertEqual(Cursor(name).take_name(), name)

    def test_405_take_name(self):
        for text in ["1a", "a-", "-a", "A", "a.b", "z" * 21, ".", "5", "0", "'a'", "''", "007", "-5"] + list(RESERVED):
            self.check_refused(text, "word", "take_name")

    def test_404_take_decimal(self):
        for text, value in [("0", (0, 0)), ("-0", (0, 0)), ("2.50", (25, 1)), ("-7", (-7, 0)), ("9" * 18, (10 ** 18 - 1, 0))]:
            self.assertEqual(Cursor(text).take_decimal(), value)

    def test_405_take_decimal(self):
        for text in ["007", "1.", "1.x", "5a", "-a", "--", "-.5", "-01", "1" * 19, "0x1", "1,5", "5)", "-(", "9." + "0" * 18]:
            self.check_refused(text, "value", "take_decimal")
        for text in ["-", "+1", ".5", "a", "a1", "(", "*", "'5'", "''", "to", "="]:
            self.check_refused(text, "word", "take_decimal")

    def test_404_take_string(self):
        for text, string in [("'a'", "a"), ("''''", "'"), ("'" + "b" * 80 + "'", "b" * 80), ("'" + "''" * 80 + "'", "'" * 80), ("' '", " ")]:
            self.assertEqual(Cursor(text).take_string(), string)

    def test_405_take_string(self):
        for text in ["''", "'" + "b" * 81 + "'", "'" + "''" * 81 + "'"]:
            self.check_refused(text, "value", "take_string")
        for text in ["a", "5", ".", "-5", "to"]:
            self.check_refused(text, "word", "take_string")

    def test_404_take_integer(self):
        for text, least, greatest in [("0", 0, 0), ("1", 1, 50), ("50", 1, 50), ("7", 7, 7), ("9" * 18, 0, 10 ** 18), ("10", 0, 99)]:
            self.assertEqual(Cursor(text).take_integer(least=least, greatest=greatest), int(text))
        self.assertEqual(Cursor("0").take_integer(greatest=5), 0)
        self.assertEqual(Cursor("5").take_integer(greatest=5), 5)

    def test_405_take_integer(self):
        for text in ["00", "01", "007", "6", "50", "1" * 18, "1" * 19, "0" * 19, "1" * 5000]:
            self.check_refused(text, "value", "take_integer", greatest=5)
        for text in ["1", "0", "6", "03"]:
            self.check_refused(text, "value", "take_integer", least=2, greatest=5)
        self.check_refused("1" * 19, "value", "take_integer", greatest=10 ** 30)
        for text in ["-5", "-0", "5.0", "5a", "a", "+5", "'5'", "''", ".", "-", "5)", "times"]:
            self.check_refused(text, "word", "take_integer", greatest=9)

    def test_404_take_level(self):
        for number in range(1, 50):
            self.assertEqual(Cursor(str(number).zfill(2)).take_level(), number)

    def test_405_take_level(self):
        for text in ["00", "50", "99", "1", "0", "001", "010", "100", "1" * 5000]:
            self.check_refused(text, "value", "take_level")
        for text in ["-1", "1a", "a", ".", "'01'", "files", "+1", "1.", "-01"]:
            self.check_refused(text, "word", "take_level")

    def test_404_take_picture(self):
        self.assertEqual(Cursor("s9(3)v99").take_picture(), ("number", True, 3, 2))
        self.assertEqual(Cursor("x").take_picture(), ("text", 1))

    def test_405_take_picture(self):
        for text in ["x9", ".", "picture", "x(0)", "x(81)", "9.", "5", "x(80)x", "9" * 19, "x" * 30000]:
            self.check_refused(text, "picture", "take_picture")
        self.check_refused("'x'", "word", "take_picture")
        self.check_refused("''", "word", "take_picture")

    def test_404_take_one_of(self):
        cursor = Cursor("a\nb 'a'")
        self.assertEqual(cursor.take_one_of(("b", "a")), "a")
        self.check_fault(2, "word", cursor.take_one_of, ("a", "c"))
        self.assertEqual(cursor.take_one_of(("b",)), "b")
        self.assertIs(cursor.is_at_string(), True)
        self.check_fault(2, "word", cursor.take_one_of, ("a", "b"))
        self.assertEqual(cursor.take_string(), "a")
        self.assertIs(cursor.is_at_string(), False)
        self.check_fault(2, "end", cursor.take_one_of, ("a", "b"))
        self.check_fault(1, "end", Cursor("").take_level)
        self.check_fault(1, "end", Cursor(" \n").take_picture)

    def test_404_after_a_refusal(self):
        cursor = Cursor("5 a 'b'")
        self.check_fault(1, "word", cursor.take_name)
        self.check_fault(1, "word", cursor.take_string)
        self.assertEqual(cursor.take_integer(greatest=9), 5)
        self.check_fault(1, "word", cursor.take_decimal)
        self.check_fault(1, "word", cursor.expect, "b")
        self.assertEqual(cursor.take_name(), "a")
        self.check_fault(1, "word", cursor.take_name)
        self.check_fault(1, "word", cursor.take_decimal)
        self.check_fault(1, "word", cursor.take_integer, greatest=9)
        self.assertEqual(cursor.take_string(), "b")
        self.assertIs(cursor.is_done(), True)


if __name__ == "__main__":
    unittest.main()
