import unittest

from cardwright.expressions import read_condition, read_expression
from cardwright.tokens import Cursor
from cardwright.words import RESERVED
from grammar import OPERATOR_WORDS
from support import ReadCase

A, B, C, D = [("ref", (name, ())) for name in "abcd"]


def number(units, scale=0):
    return ("number", (units, scale))


ONE = number(1)


class TestExpressions(ReadCase):
    read = read_expression

    def test_403_factors(self):
        for text, tree in [("a", A), ("1", ONE), ("0", number(0)), ("-5", number(-5)), ("- 5", ("negative", number(5))), ("2.50", number(25, 1)),
                           ("- - a", ("negative", ("negative", A))), ("- -5", ("negative", number(-5))), ("( a )", A), ("( ( 1 ) )", ONE),
                           ("- ( a )", ("negative", A)), ("( - a )", ("negative", A)), ("-0", number(0)), ("-0.0", number(0))]:
            self.check_tree(text, tree)

    def test_403_references(self):
        for text, subscripts in [("a ( 1 )", (("", 1),)), ("a ( i )", (("i", 0),)), ("a ( i + 3 )", (("i", 3),)),
                                 ("a ( i - 3 )", (("i", -3),)), ("a ( 2 , i - 1 )", (("", 2), ("i", -1))),
                                 ("a ( i , j , 50 , k + 50 )", (("i", 0), ("j", 0), ("", 50), ("k", 50)))]:
            self.check_tree(text, ("ref", ("a", subscripts)))
            self.check_tree("- " + text + " * b", ("times", ("negative", ("ref", ("a", subscripts))), B))

    def test_403_sums_and_products(self):
        for text, tree in [
            ("a + b", ("plus", A, B)), ("a - b", ("minus", A, B)), ("a * b", ("times", A, B)),
            ("a + b * c", ("plus", A, ("times", B, C))), ("a * b + c", ("plus", ("times", A, B), C)),
            ("a - b * c - d", ("minus", ("minus", A, ("times", B, C)), D)),
            ("a * b - c * d", ("minus", ("times", A, B), ("times", C, D))),
            ("- a * b", ("times", ("negative", A), B)), ("a * - b", ("times", A, ("negative", B))),
            ("- a + b", ("plus", ("negative", A), B)), ("a - - b", ("minus", A, ("negative", B))), ("a + -5", ("plus", A, number(-5))),
        ]:
            self.check_tree(text, tree)

    def test_403_same_rank_to_the_left(self):
        for one, kind in [("+", "plus"), ("-", "minus")]:
            for other, second in [("+", "plus"), ("-", "minus")]:
                self.check_tree(f"a {one} b {other} c", (second, (kind, A, B), C))
                self.check_tree(f"a {one} b {other} c {one} d", (kind, (second, (kind, A, B), C), D))
        self.check_tree("a * b * c * d", ("times", ("times", ("times", A, B), C), D))

    def test_403_parentheses(self):
        for text, tree in [
            ("a - ( b - c )", ("minus", A, ("minus", B, C))), ("a * ( b * c )", ("times", A, ("times", B, C))),
            ("( a + b ) * c", ("times", ("plus", A, B), C)), ("a * ( b + c )", ("times", A, ("plus", B, C))),
            ("- ( a + b )", ("negative", ("plus", A, B))), ("- ( a * b )", ("negative", ("times", A, B))),
            ("( ( a ) + ( ( b ) ) )", ("plus", A, B)), ("( a ( 1 ) )", ("ref", ("a", (("", 1),)))),
            ("2 * - ( a + 1 )", ("times", number(2), ("negative", ("plus", A, ONE)))),
        ]:
            self.check_tree(text, tree)

    def test_403_stops_ahead_of_what_cannot_go_on(self):
        for rest in [".", "to a", ")", "a", "5", "-5", "'it'", "(", "=", "and", "]", "not", "then", "7", ",", "++", "**", "/"]:
            self.check_tree("1 + 2", ("plus", ONE, number(2)), rest if rest[0] != "'" else "")
            cursor = Cursor("1 " + rest)
            self.assertEqual(read_expression(cursor), ONE)
            self.assertEqual(cursor.is_done(), False)
        self.check_tree("a * b", ("times", A, B), ") * c")
        self.check_tree("a ( 1 )", ("ref", ("a", (("", 1),))), "( 2 )")
        self.check_tree("( a )", A, "( 2 )")

    def test_405_words(self):
        for words in [".", "+", "*", ")", "=", "A", "a-", "[", "]", ",", "/", "+5", "a.b", "z" * 21] + list(RESERVED):
            for ahead in ["", "a +", "a -", "a *", "-", "(", "a * ( b +", "- - ("]:
                self.check_read_fault((ahead + " " + words).strip(), "word")
        for ahead in ["", "a +", "a *", "-", "("]:
            for string in ["'a'", "''", "'5'", "'" + "b" * 81 + "'"]:
                self.check_read_fault((ahead + " " + string).strip(), "word")
        for words in ["( a b", "( a .", "( a ]", "( a 5", "( a -5", "( a ( 1 ) (", "( a =", "( a 'b'"]:
            self.check_read_fault(words, "word")

    def test_405_numbers(self):
        for word in ["007", "00", "5.", "5x", "-x", "--5", "-a", "1.2.3", "1" * 19, "-05", "-.5", "5-", "-5.", "-(", "0x1", "1,5"]:
            for ahead in ["", "a +", "a *", "-", "(", "1 * ( -"]:
                self.check_read_fault((ahead + " " + word).strip(), "value")
        self.check_read_fault(".5", "word")

    def test_405_subscripts(self):
        for word in ["0", "51", "00", "01", "007", "1" * 18, "1" * 19]:
            for ahead in ["a (", "a ( i +", "a ( i -", "a ( 1 ,", "a ( 1 , i +", "1 + ( - a ( i , j -"]:
                self.check_read_fault(ahead + " " + word, "value")
        for word in ["-1", "1x", "1.0", ".", "+1", "A", "(", ")", ",", "+", "-", "to", "'1'", "''"]:
            self.check_read_fault("a ( " + word, "word")
            self.check_read_fault("a ( 1 , " + word, "word")
            self.check_read_fault("a ( i + " + word, "word")
            self.check_read_fault("a ( i - " + word, "word")
        for word in ["i", "1", "+", "-", "*", ".", "-1", "(", "'1'", "to"]:
            self.check_read_fault("a ( 1 " + word, "word")
            self.check_read_fault("a ( i + 1 " + word, "word")
        for word in ["i", "1", "*", ".", "-1", "+1", "(", "'1'"]:
            self.check_read_fault("a ( i " + word, "word")
        self.check_read_fault("a ( i + j", "word")

    def test_405_the_end(self):
        for words in ["a +", "a *", "-", "(", "( a", "a (", "a ( 1", "a ( 1 ,", "a ( i", "a ( i +", "a ( i -", "a ( i + 1", "- (", "( - a",
                      "( a +", "( a ( 1 )"]:
            self.check_read_fault(words, "end")
        self.check_no_tokens()

    def test_406_levels(self):
        for sign in ["+", "-", "*"]:
            row = f"a {sign} " * 19 + "a"
            tree = A
            for _ in range(19):
                tree = ({"+": "plus", "-": "minus", "*": "times"}[sign], tree, A)
            self.check_tree(row, tree, ".")
            for last in ["a", "5", "a ( 1 )", "( a )", "( ( a ) )", "( a ( i + 1 ) )", "- a", "( a + a )", "a ( 1 , 2 )"]:
                self.check_read_fault(f"{row} {sign} {last}", "depth")
            self.check_read_fault(f"( {row} ) {sign} a", "depth")
            self.check_read_fault(f"b {sign} ( {row} )", "depth")
            self.check_read_fault(f"b {sign} ( ( {row} ) )", "depth")
            self.check_read_fault(f"- ( {row} )", "depth")

    def test_406_levels_of_other_ranks(self):
        product = "a * " * 19 + "a"
        self.check_read_fault("b + " + product, "depth")
        self.check_read_fault(product + " + b", "depth")
        self.check_read_fault("1 - " + product + " * c", "depth")
        # Eighteen factors more make nineteen levels, and the sum one more.
        self.check_tree("a + " + "a * " * 18 + "a", read_expression(Cursor("a + ( " + "a * " * 18 + "a )")))
        # The operand is the whole product, so the fault is behind it.
        row = "a + " * 19 + "a"
        self.check_read_fault(f"{row} + b * c", "depth")
        self.check_read_fault(f"b + ( {row} ) * c", "depth")

    def test_406_open(self):
        self.check_tree("( " * 20 + "a" + " )" * 20, A)
        self.check_read_fault("( " * 20 + "(", "depth")
        self.check_read_fault("( " * 20 + "-", "depth")
        self.check_read_fault("- " * 20 + "-", "depth")
        self.check_read_fault("- " * 20 + "(", "depth")
        self.check_read_fault("- ( " * 10 + "-", "depth")
        self.check_read_fault("- ( " * 10 + "(", "depth")
        self.check_read_fault("( a + " * 20 + "-", "depth")
        self.check_read_fault("a * ( " * 20 + "(", "depth")
        # A closed sign or parenthesis is open no more.
        self.check_tree("( - a * ( a ) + " + "( " * 19 + "a" + " )" * 20, ("plus", ("times", ("negative", A), A), A))
        self.check_read_fault("( - a * ( a ) + " + "( " * 19 + "-", "depth")
        self.check_tree("- a + " + "- " * 18 + "a", read_expression(Cursor("- a + ( " + "- " * 18 + "a )")))
        # A parenthesis behind a name opens no expression.
        self.check_tree("( " * 20 + "a ( 1 )" + " )" * 20, ("ref", ("a", (("", 1),))))

    def test_406_signs(self):
        tree = A
        for _ in range(19):
            tree = ("negative", tree)
        self.check_tree("- " * 19 + "a", tree)
        self.check_tree("- ( " * 10 + "a" + " )" * 10, read_expression(Cursor("- " * 10 + "a")))
        # Twenty signs may be open, but with their operand they have too many levels.
        self.check_read_fault("- " * 20 + "a", "depth")
        self.check_read_fault("- " * 20 + "a ( 1 )", "depth")
        self.check_read_fault("- " * 19 + "( a + b )", "depth")

    def test_406_order_of_faults(self):
        row = "a + " * 19 + "a"
        self.check_read_fault(row + " + .", "word")
        self.check_read_fault(row + " + 007", "value")
        self.check_read_fault(row + " +", "end")
        self.check_read_fault(row + " + b ( 0", "value")
        self.check_read_fault("( " * 20 + ".", "word")
        self.check_read_fault(row + " + ( b", "end")


class TestConditions(ReadCase):
    read = read_condition

    AB = ("compare", "=", A, B)
    CD = ("compare", "<", C, D)
    DIGITS = ("digits", ("a", ()))

    def test_403_compare(self):
        for sign in OPERATOR_WORDS:
            self.check_tree(f"a {sign} 5", ("compare", sign, A, number(5)))
            self.check_tree(f"a + b {sign} - c * d", ("compare", sign, ("plus", A, B), ("times", ("negative", C), D)))
            self.check_tree(f"( a ) {sign} ( b )", ("compare", sign, A, B))

    def test_403_texts(self):
        for sign in OPERATOR_WORDS:
            self.check_tree(f"text 'it''s' {sign} a", ("texts", sign, ("text", "it's"), A))
            self.check_tree(f"text a ( 2 ) {sign} -5.0", ("texts", sign, ("ref", ("a", (("", 2),))), number(-5)))
        self.check_tree("text 'a' = 'b'", ("texts", "=", ("text", "a"), ("text", "b")))

    def test_403_digits(self):
        self.check_tree("digits a", self.DIGITS)
        self.check_tree("digits a ( 1 , i + 2 )", ("digits", ("a", (("", 1), ("i", 2)))))

    def test_403_rank(self):
        ab, cd, digits = self.AB, self.CD, self.DIGITS
        for text, tree in [
            ("a = b or c < d", ("or", ab, cd)), ("a = b and c < d", ("and", ab, cd)), ("not a = b", ("not", ab)),
            ("a = b or c < d and digits a", ("or", ab, ("and", cd, digits))),
            ("a = b and c < d or digits a", ("or", ("and", ab, cd), digits)),
            ("not a = b and c < d", ("and", ("not", ab), cd)), ("a = b and not c < d", ("and", ab, ("not", cd))),
            ("not a = b or not c < d", ("or", ("not", ab), ("not", cd))), ("not not digits a", ("not", ("not", digits))),
            ("a = b or c < d or digits a", ("or", ("or", ab, cd), digits)),
            ("a = b and c < d and digits a", ("and", ("and", ab, cd), digits)),
            ("a = b or c < d and digits a or not a = b", ("or", ("or", ab, ("and", cd, digits)), ("not", ab))),
        ]:
            self.check_tree(text, tree)

    def test_403_brackets(self):
        ab, cd, digits = self.AB, self.CD, self.DIGITS
        for text, tree in [
            ("[ a = b ]", ab), ("[ [ a = b ] ]", ab), ("[ a = b or c < d ] and digits a", ("and", ("or", ab, cd), digits)),
            ("a = b or [ c < d or digits a ]", ("or", ab, ("or", cd, digits))),
            ("a = b and [ c < d and digits a ]", ("and", ab, ("and", cd, digits))),
            ("not [ a = b and c < d ]", ("not", ("and", ab, cd))), ("not [ not a = b ]", ("not", ("not", ab))),
            ("[ not [ a = b or c < d ] ]", ("not", ("or", ab, cd))), ("[ ( a ) = b ] or c < d", ("or", ab, cd)),
        ]:
            self.check_tree(text, tree)

    def test_403_stops_ahead_of_what_cannot_go_on(self):
        for rest in ["then", ".", "]", "a", "5", "-5", "=", "not", "[", "digits", "text", "(", "else", ")"]:
            self.check_tree("digits a ( 1 )", ("digits", ("a", (("", 1),))), rest)
            self.check_tree("[ digits a ]", self.DIGITS, rest)
            self.check_tree("a = 5", ("compare", "=", A, number(5)), rest)
        self.check_tree("a = b", self.AB, ") or")
        self.check_tree("text a = b", ("texts", "=", A, B), "+ 1")
        self.check_tree("text a = 5", ("texts", "=", A, number(5)), "+ 1")

    def test_405_words(self):
        for word in [".", "or", "and", "]", ")", "=", "A", "'a'", "''", "then", "move"]:
            for ahead in ["", "not", "[", "a = b or", "a = b and", "not [ digits a and"]:
                self.check_read_fault((ahead + " " + word).strip(), "word")
        for word in [".", "then", "==", "=<", "'='", "5", "b", "and", "]", "not", "-5", ")", "A"]:
            self.check_read_fault("a " + word, "word")
            self.check_read_fault("text a " + word, "word")
            self.check_read_fault("text 'a' " + word, "word")
        for word in ["[", "not", "digits", "text", "'a'", ".", "=", "]"]:
            self.check_read_fault("a = " + word, "word")
            self.check_read_fault("( " + word, "word")
        for word in ["5", "'a'", "(", "-", ".", "[", "=", "digits"]:
            self.check_read_fault("digits " + word, "word")
        for word in ["-", "(", ".", "[", "=", "text", "+", "*"]:
            self.check_read_fault("text " + word, "word")
            self.check_read_fault("text a = " + word, "word")
        for word in ["+", "*", "(", "-"]:
            self.check_read_fault("text 5 " + word, "word")
        for word in [".", ")", "a", "not", "digits", "=", "then"]:
            self.check_read_fault("[ a = b " + word, "word")
        self.check_read_fault("[ a ]", "word")
        self.check_read_fault("( a = ", "word")

    def test_405_values(self):
        for word in ["''", "'" + "b" * 81 + "'", "007", "-x", "5x", "1" * 19, "5."]:
            self.check_read_fault("text " + word, "value")
            self.check_read_fault("text a <> " + word, "value")
            if word[0] != "'":
                self.check_read_fault(word, "value")
                self.check_read_fault("not [ a = " + word, "value")
        self.check_read_fault("digits a ( 51", "value")

    def test_404_strings_of_80(self):
        self.check_tree("text '" + "b" * 80 + "' = '" + "''" * 80 + "'", ("texts", "=", ("text", "b" * 80), ("text", "'" * 80)))

    def test_405_the_end(self):
        for words in ["not", "[", "a", "a =", "digits", "text", "text a", "text a =", "a = b or", "a = b and", "[ a = b", "a +", "( a",
                      "a = b or [ not", "text 'a'", "text 5 <>"]:
            self.check_read_fault(words, "end")
        self.check_no_tokens()

    def test_406_levels(self):
        for word in ["and", "or"]:
            row = f"digits a {word} " * 19 + "digits a"
            tree = self.DIGITS
            for _ in range(19):
                tree = (word, tree, self.DIGITS)
            self.check_tree(row, tree, "then")
            for last in ["digits b", "a = b", "[ a = b ]", "not a = b", "text a = 'b'", "a = ( b )", "a ( 1 ) = b ( 2 )",
                         "[ [ digits a ] ]"]:
                self.check_read_fault(f"{row} {word} {last}", "depth")
            self.check_read_fault(f"digits a {word} [ {row} ]", "depth")
            self.check_read_fault(f"not [ {row} ]", "depth")
        row = "digits a or " * 19 + "digits a"
        self.check_read_fault(f"{row} or digits a and digits b", "depth")

    def test_406_open(self):
        self.check_tree("[ " * 20 + "a = b" + " ]" * 20, self.AB)
        for ahead in ["[ " * 20, "not " * 20, "not [ " * 10, "[ not " * 10, "[ digits a and " * 20, "not not [ [ " * 5]:
            self.check_read_fault(ahead + "[", "depth")
            self.check_read_fault(ahead + "not", "depth")
        self.check_tree("[ not a = b and [ a = b ] or " + "[ " * 19 + "a = b" + " ]" * 20,
                        ("or", ("and", ("not", self.AB), self.AB), self.AB))
        self.check_read_fault("not " * 20 + "a = b", "depth")
        self.check_read_fault("not " * 20 + "digits a ( i + 1 )", "depth")
        self.check_tree("not " * 19 + "a = b", read_condition(Cursor("not " * 9 + "[ " + "not " * 10 + "a = b ]")))

    def test_406_an_expression_counts_for_itself(self):
        opened = "( " * 20 + "a" + " )" * 20
        self.check_tree("[ " * 20 + opened + " = " + opened + " ]" * 20, ("compare", "=", A, A))
        self.check_read_fault("[ " * 20 + "( " * 20 + "(", "depth")
        self.check_read_fault("a = " + "( " * 20 + "-", "depth")
        row = "a + " * 19 + "a"
        tree = read_expression(Cursor(row))
        condition = ("compare", "<", tree, tree)
        for _ in range(19):
            condition = ("not", condition)
        self.check_tree("not " * 19 + row + " < " + row, condition)
        self.check_read_fault("[ " + row + " + a", "depth")
        self.check_read_fault("not a = " + row + " + ( a )", "depth")


if __name__ == "__main__":
    unittest.main()
