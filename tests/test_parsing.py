import random
import unittest

from cardwright.errors import BadProgram
from cardwright.parsing import parse
from cardwright.trees import is_entry
from grammar import RULES, first_fault
from support import FaultCase, Maker, on_lines

PERCENT = chr(37)
HEAD = "program p . data . files . procedure ."

PAYROLL = """program payroll .
data .
  01 hours-row .
    05 worker picture x(8) .
    05 hours picture 99v9 occurs 2 .
  01 total picture s9(5)v99 value -1.50 .
files .
  input hours-file record hours-row .
  output list-file record hours-row .
procedure .
main .
  read hours-file at end stop . bad show 'it''s bad' worker . end .
  perform add-up thru add-more until total > 100 and not digits worker .
add-up .
add-more .
  set total rounded to total + hours ( 1 ) * 2 else
    clear total .
  end .
"""
PAYROLL_TREE = (
    "payroll",
    ((1, "hours-row", None, 0, None), (5, "worker", ("text", 8), 0, None), (5, "hours", ("number", False, 2, 1), 2, None),
     (1, "total", ("number", True, 5, 2), 0, (-15, 1))),
    (("input", "hours-file", "hours-row"), ("output", "list-file", "hours-row")),
    (("main", (
        ("read", "hours-file", (("stop",),), (("show", (("text", "it's bad"), ("ref", ("worker", ())))),)),
        ("perform", "add-up", "add-more", ("until", (
            "and", ("compare", ">", ("ref", ("total", ())), ("number", (100, 0))), ("not", ("digits", ("worker", ())))))))),
     ("add-up", ()),
     ("add-more", (
         ("set", ("total", ()), True, ("plus", ("ref", ("total", ())), ("times", ("ref", ("hours", (("", 1),))), ("number", (2, 0)))),
          (("clear", ("total", ())),)),))),
)

# Every place of the grammar stands in one of these programs, each token apart from the next one.
PROGRAMS = [
    """program p . data . 01 a . 05 b picture x(2) occurs 3 value 'it''s' . 49 c value -5.0 . 02 d occurs 50 . 03 e picture 9 .
    files . input f record a . output g record a . procedure . main . stop . second . third .""",
    HEAD + """ main . move 'q' to a . move -1 to a ( 1 , i , i + 2 , i - 50 ) . move a to b . set a to b . set a rounded to
    ( b + 1 ) * - c - d else stop . clear a . end . divide a by - b giving c . divide a + 1 by b * 2 giving c ( i ) rounded
    remainder d else stop . end . divide 1 by 2 giving a remainder b ( 2 ) .""",
    HEAD + """ main . if a = 1 then stop . end . if not [ a < b or digits c ( 1 ) ] and text 'x' <> d then if text a >= 5 then
    write f . end . else read f end . end . read f at end stop . end . read f bad stop . clear a . end . read f at end stop . bad
    show a -5 'b' . end . sort a by b . sort a by b descending .""",
    HEAD + """ main . perform p . perform p thru q . perform p 5 times . perform p thru q a ( 1 ) times . perform p until a > b
    or b <= c . perform p varying i from 1 by - a until ( i ) > 5 and not not digits i . show 1 . show 'b' c .""",
]
WORDS = """program data files procedure picture occurs value input output record move to set rounded else end divide by giving
remainder if then perform thru times until varying from read at bad write show sort descending clear stop not and or digits text
. , ( ) [ ] + - * = < > <= >= <> a b-1 A a- zz9 x(3) 9 s99v9 5 0 00 01 05 50 51 007 -5 -a --1 5x 2.50 2. 000 001 49 1.0 .5
999999999999999999 9999999999999999999 -0 + ++ == 'a' '' 'it''s' / a.b""".split() + ["'" + "b" * 80 + "'", "'" + "b" * 81 + "'"]


def fault_of(text):
    try:
        parse(text)
    except BadProgram as fault:
        return fault.line, fault.reason
    return None


def word_of(word):
    if word.startswith("'"):
        return "string", word[1:-1].replace("''", "'")
    return "word", word


class TestParse(FaultCase):
    def test_400_a_program(self):
        self.assertEqual(parse(PAYROLL), PAYROLL_TREE)
        self.assertEqual(parse(PAYROLL.replace("\n", "  \n\n ")), PAYROLL_TREE)
        self.assertEqual(parse(" ".join(PAYROLL.split())), PAYROLL_TREE)

    def test_400_the_least_program(self):
        self.assertEqual(parse(HEAD + " main ."), ("p", (), (), (("main", ()),)))
        self.assertEqual(parse(HEAD + " p . p ."), ("p", (), (), (("p", ()), ("p", ()))))

    def test_400_lengths(self):
        text = HEAD + " main ."
        self.assertEqual(parse(text + " " * (40000 - len(text))), parse(text))
        self.assertEqual(parse("\n" * (40000 - len(text)) + text), parse(text))
        self.check_fault(0, "size", parse, text + " " * (40001 - len(text)))
        self.check_fault(0, "size", parse, "\n" * (40001 - len(text)) + text)

    def test_402_faults_of_tokens_come_first(self):
        self.check_fault(0, "size", parse, "wrong " + PERCENT + " it's" + " " * 40000)
        self.check_fault(4, "character", parse, "wrong\n'\n\n" + PERCENT)
        self.check_fault(3, "quote", parse, "wrong\n\nit's")
        self.check_fault(11, "quote", parse, on_lines(HEAD + " main .") + "'")
        self.check_fault(13, "quote", parse, on_lines(HEAD + " main .") + "\n\n'")
        self.check_fault(12, "character", parse, on_lines(HEAD + " main .") + "\n\t")
        self.check_fault(2, "quote", parse, "program p .\n'it\n's")

    def test_405_lines(self):
        self.check_fault(1, "end", parse, "")
        self.check_fault(1, "end", parse, "\n\n  \n")
        self.check_fault(3, "end", parse, "\n\nprogram\n\n")
        self.check_fault(3, "word", parse, "\n\nfiles\n\n")
        self.check_fault(4, "word", parse, "program\np\n.\ndates\n'x' 007")
        self.check_fault(9, "end", parse, on_lines(HEAD) + "\n\n")
        self.check_fault(4, "end", parse, "\n" + HEAD + "\n\n main\n \n")

    def test_403_sections(self):
        for text, reason in [
            ("data", "word"), ("program .", "word"), ("program data", "word"), ("program 'p'", "word"), ("program p data", "word"),
            ("program p . files", "word"), ("program p . data 01", "word"), ("program p . data . procedure", "word"),
            ("program p . data . a", "word"), ("program p . data . 1", "value"), ("program p . data . 50", "value"),
            ("program p . data . 'a'", "word"), ("program p . data . -1", "word"), ("program p . data . 01 a . 005", "value"),
            ("program p . data . 01 a . input", "word"), ("program p . data . files input", "word"), ("program p . data . files . 01", "word"),
            ("program p . data . files . data", "word"), ("program p . data . files . input f record r . main", "word"),
            ("program p . data . files . procedure main", "word"), (HEAD + " .", "word"), (HEAD + " stop", "word"), (HEAD + " 5", "word"),
            (HEAD + " main stop", "word"), (HEAD + " main . 5", "word"), (HEAD + " main . .", "word"), (HEAD + " main . end", "word"),
            (HEAD + " main . 'a'", "word"), (HEAD + " main . stop . procedure", "word"), (HEAD + " main . second stop", "word"),
            (HEAD + " main . second . third . else", "word"), (HEAD + " main . stop . 01", "word"), (HEAD + " main . A", "word"),
        ]:
            for more in ["", "\n'x' 007 .", "\nprogram"]:
                self.check_fault(len(text.split()), reason, parse, on_lines(text) + more)

    def test_406_depth(self):
        text = HEAD + " main . " + "if a = 1 then " * 7 + "stop ." + " end ." * 7
        self.assertEqual(parse(text)[3][0][0], "main")
        for words in ["if a = 1 then " * 8 + "stop", "if a = 1 then " * 8 + "clear", "if " + "[ " * 20 + "not", "set a to " + "- " * 20 + "a",
                      "if a = " + "( " * 20 + "("]:
            for ahead in [" main . ", " main . second . stop . "]:
                text = HEAD + ahead + words
                self.check_fault(len(text.split()), "depth", parse, on_lines(text))
                self.check_fault(len(text.split()), "depth", parse, on_lines(text) + "\n/ 007")

    def test_408_names_need_not_stand_for_anything(self):
        self.assertEqual(parse(HEAD + " main . move a to main . perform main ."), ("p", (), (), (("main", (
            ("move", ("ref", ("a", ())), ("main", ())), ("perform", "main", "main", ("once",)))),)))
        tree = parse("program p . data . 49 a value 5 . 01 a . files . input a record b . input a record a . procedure . a . a .")
        self.assertEqual(tree, ("p", ((49, "a", None, 0, (5, 0)), (1, "a", None, 0, None)),
                                (("input", "a", "b"), ("input", "a", "a")), (("a", ()), ("a", ()))))

    def test_400_the_argument_stays(self):
        self.assertEqual(parse(PAYROLL), parse(PAYROLL))
        self.assertTrue(all(is_entry(entry) for entry in parse(PAYROLL)[1]))


class TestFirstFaults(unittest.TestCase):
    """Compares the first fault with what the grammar says by itself, for rows of tokens near right ones."""

    def check_row(self, row):
        expected = first_fault([word_of(word) for word in row])
        if expected is not None:
            expected = (expected[0] + 1, expected[1])
        self.assertEqual(fault_of("\n".join(row)), expected, " ".join(row))

    def test_403_the_grammar_itself(self):
        self.assertEqual(len(RULES), 18)
        self.assertIsNone(first_fault([word_of(word) for word in PAYROLL.replace("it''s bad", "bad").split()]))

    def test_403_right_programs(self):
        for program in PROGRAMS:
            self.assertIsNone(fault_of(program))
            self.check_row(program.split())

    def test_405_each_place_ends_or_stops(self):
        for program in PROGRAMS:
            row = program.split()
            for at in range(len(row)):
                self.check_row(row[:at] if at else ["."])
                for word in WORDS:
                    self.check_row(row[:at] + [word] + row[at + 1:])

    def test_405_inserted_and_left_out(self):
        for program in PROGRAMS:
            row = program.split()
            for at in range(len(row)):
                self.check_row(row[:at] + row[at + 1:])
                for word in ["(", ")", ".", "-", "not", "a", "5", "'a'", "'b c'", "stop", "[", "05"]:
                    self.check_row(row[:at] + [word] + row[at:])

    def test_405_what_stands_behind_does_not_matter(self):
        chooser = random.Random(5)
        for program in PROGRAMS:
            row = program.split()
            for at in range(len(row)):
                for word in ["/", "007", "''", "end"]:
                    first = row[:at] + [word]
                    fault = fault_of("\n".join(first))
                    if fault is not None and fault[1] != "end":
                        for _ in range(3):
                            behind = [WORDS[chooser.randrange(len(WORDS))] for _ in range(4)]
                            self.assertEqual(fault_of("\n".join(first + behind)), fault, first)


if __name__ == "__main__":
    unittest.main()
