import unittest
from unittest import mock

from cardwright.compiler import compile_program
from cardwright.examiner import examine
from cardwright.layout import Layout
from cardwright.machine import Machine, run_code
from cardwright.meaning import run_plain
from codes import has_ring
from running import build
from whole import random_programs

DATA = """01 row . 05 code picture x(3) value 'ab' . 05 amount picture s99v9 value -1.5 . 05 part occurs 3 . 10 cell picture 9 occurs 2 value 4 .
 10 word picture x(2) value 'w' . 10 price picture z9.9- . 01 tab . 05 entry picture s9 occurs 4 value -2 . 05 names picture x(2) occurs 3 .
 05 edits picture zz9 occurs 2 . 01 i picture 9 value 1 . 01 j picture 99 value 2 . 01 total picture s9(4)v99 . 01 tiny picture v9(3) .
 01 edit picture **9.99cr . 01 line picture x(9) . 01 big picture 9(18) . 01 fine picture v9(18) .
 01 twin . 05 c1 picture 9 . 05 c2 picture 9 . 05 c3 picture x(2) . 05 c4 picture z9.9- ."""
FILES = "input f record row . input h record twin . output g record row . output k record line ."
WORK = " work . set i to i + 1 . show i ."
RIGHT = "ab -01544w  0.0 44w  0.0 44w  0.0 "
LINES = [{"f": (), "h": ()}, {"f": (RIGHT, "x", RIGHT.replace("ab", "ba")), "h": ("12ab 1.5-", "", "99   0.0")},
         {"f": ("x", "y" * 100, RIGHT + " "), "h": ("", "1x", "12")}]

# Each kind of statement, with each kind of source, target, way and picture.
TEXTS = [
    "", "stop .", "show 'a' . stop . show 'b' .",
    # Moves.
    "move 'abcdef' to code . move 'it''s' to line .", "move code to line . move row to line . move edit to line .",
    "move i to line . move entry ( 2 ) to line . move big to code .", "move -12.345 to amount . move 12345.678 to edit . move -5 to i . move 0.5 to tiny .",
    "move amount to edit . move edit to amount . move price ( j ) to total . move total to i . move tiny to big . move big to fine .",
    "move part ( 1 ) to twin . set c1 to 7 . move twin to part ( j ) . move part ( j ) to part ( i + 2 ) . show row .", "move row to row . move cell ( i , j ) to cell ( 3 , 1 ) .",
    "move cell ( j , i ) to word ( i ) . move names ( j ) to names ( j - 1 ) . move edits ( 1 ) to edits ( 2 ) .",
    "move entry ( j + 3 ) to i .", "move 5 to entry ( j - 2 ) .", "move 'x' to names ( i + 3 ) . show 'no' .",
    # Setting.
    "set i to 5 . set total rounded to amount * amount - 0.005 . set tiny to 1 - 0.0009 . set edit to - amount .", "set i to 10 . set i to -1 else show 'no' . end . set j to i .",
    "set total to ( amount + i ) * - ( j - 2.5 ) . show total .", "set amount rounded to 99.95 else clear amount . show amount . end .",
    "set total to big * big * fine - fine + 1 else show 'too much' . end .", "set entry ( i ) to cell ( j , j ) + 3 else show 'no' . end . show tab .",
    "set entry ( j + 3 ) to 1 else show 'no' . end .", "set i to entry ( 4 ) * entry ( 3 ) . set i to entry ( i + 1 ) else show 'less' . end .",
    # Dividing.
    "divide 7 by 2 giving amount . divide 2 by 3 giving total rounded remainder tiny . divide -7.3 by 2 giving amount remainder total . show amount total tiny .",
    "divide 1 by 0 giving i else show 'zero' . end . divide 1 by i - 1 giving i remainder j .", "divide 100 by i giving amount else show 'big' . end .",
    "divide 7 by 2 giving i remainder i . divide big + 1 by 3 giving fine rounded remainder big else show 'no' . end . divide 9 by 4 giving edit rounded remainder edits ( j ) .",
    "divide amount by 0.7 giving entry ( j ) rounded remainder entry ( i ) . show tab .", "divide 1 by 1 giving entry ( j + 4 ) remainder i .",
    "divide 5 by 3 giving i remainder entry ( j + 2 ) . show i tab .",
    # Conditions.
    "if i = 1 then show 'a' . else show 'b' . end . if not i = 1 then show 'c' . else show 'd' . end . if i <> 1 or j >= 2 and amount < 0 then show 'e' . end .",
    "if [ i = 2 or j = 2 ] and not [ amount > 0 or i < 1 ] then show 'f' . end . if text code = 'ab' and text line < code or digits code then show 'g' . end .",
    "if text row >= twin then show 'h' . end . if text 'b' <> word ( j ) and digits cell ( 1 , 1 ) and not digits edit then show 'i' . end .",
    "if i = 2 and entry ( j + 3 ) = 1 then show 'j' . end . if i = 1 or entry ( j + 3 ) = 1 then show 'k' . end . if entry ( j + 3 ) = 1 then show 'l' . end .",
    "if amount * 10 = -15 then if tiny < 0.001 then show 'm' . end . show 'n' . end . if 0.1 + 0.2 = 0.3 then show 'o' . end . if - i >= -1.0 then show 'p' . end .",
    # Performing.
    "perform work . perform work 3 times ." + WORK, "perform work 0 times . perform work i times . perform work amount times . perform work total times ." + WORK,
    "set total to 2.9 . perform work thru more total times . show 'z' ." + WORK + " none . more . set total to 0 .", "perform work until i >= 4 . perform work until 1 = 1 ." + WORK,
    "perform work until i = 11 or not i < 3 and i > 20 ." + WORK, "perform work 999999999999999999 times ." + WORK,
    "perform work varying j from 1 by 1 until j > 3 . show j ." + WORK, "perform work varying amount from 12.39 by - i until amount < 5 . show amount ." + WORK,
    "perform work varying tiny from 0.0009 by 0.0005 until i > 4 . show tiny ." + WORK, "perform work varying i from -17 by 1 until i > 8 . show i . work . show i .",
    "perform work varying i from 7 by 1 until 1 = 2 . work . show i .", "perform work varying entry ( i ) from i by entry ( 4 ) until i > 4 . show tab ." + WORK,
    "perform work varying entry ( j ) from 1 by 1 until j = 9 . work . set j to j + 1 .", "perform a thru b 2 times . a . perform b . b . perform c until i > 3 . c . set i to i + 1 .",
    "perform a . show 'no' . a . stop .", "perform a 3 times . a . perform b thru c . b . c . if i = 3 then stop . end . set i to i + 1 .",
    # Files.
    "read f end . show row . read f end . read f at end show 'end' . end . read f bad show 'bad' . end . read f end .", "read h at end stop . bad show 'bad' . end . show twin . write g . write k .",
    "perform work 5 times . work . read f at end show 'end' . bad show 'bad' . end . write g . read h bad show 'worse' . end . move twin to line . write k .",
    "read f at end show 'end' . end . read h bad show 'bad' . show 'bad' . end . write g .",
    # Showing, sorting, clearing.
    "show 'it''s' 5 -0.50 i amount edit code row tiny entry ( j ) part ( 3 ) big fine .", "show 'a' entry ( j + 3 ) 'b' .", "show names ( 1 ) . show 0 .",
    "set entry ( 1 ) to 5 . set entry ( 3 ) to -7 . sort entry by entry . show tab . sort entry by entry descending . show tab .",
    "move 'b' to names ( 1 ) . move 'a' to names ( 3 ) . sort names by names . sort edits by edits descending . show tab .",
    "move 'b' to word ( 1 ) . set price ( 3 ) to -7.5 . set price ( 1 ) to 3 . sort part by word . show row . sort part by price descending . show row . sort part by price . show row .",
    "set i to 5 . set amount to 3 . move 'zz' to word ( 2 ) . set cell ( 3 , 1 ) to 1 . clear i . show row . clear part ( 3 ) . clear word ( 2 ) . show row . clear row . clear edit . show row .",
    "set entry ( 2 ) to 5 . clear entry ( j ) . clear cell ( j , i ) . clear edits ( i ) . clear tab . clear line . show tab .", "clear entry ( j + 3 ) . show 'no' .",
]


class TestCompiler(unittest.TestCase):
    def programs(self):
        for text in TEXTS:
            yield build(DATA, text, FILES)
        yield build("", "")
        yield build("", "show 'a' . perform b 2 times . b . show 5 .")

    def check_same(self, program, code, lines, steps):
        first = Layout(program[1]).first_storage()
        self.assertEqual(run_code(code, first, lines, steps), run_plain(program, lines, steps), (program[3], lines, steps))

    def test_800_whole_outcomes(self):
        for program in self.programs():
            code = compile_program(program)
            for lines in LINES:
                last = run_plain(program, lines, 60)
                for steps in range(60 - last[1] + 2):
                    self.check_same(program, code, lines, steps)

    def test_800_random_programs(self):
        for program, lines in random_programs(1, 200):
            code = compile_program(program)
            last = run_plain(program, lines, 40)
            for steps in range(40 - last[1] + 2):
                self.check_same(program, code, lines, steps)

    def test_800_what_the_code_has(self):
        for program in list(self.programs()) + [program for program, _ in random_programs(2, 60)]:
            code = compile_program(program)
            self.assertIsNone(examine(code))
            self.assertEqual(code.files, program[2])
            self.assertEqual(code.size, Layout(program[1]).size())
            self.assertEqual(len(code.starts), len(program[3]))
            self.assertEqual({offset: picture for offset, picture in code.cells.items() if offset < code.size},
                             dict((Layout(program[1]).item(name).offset + offset, picture) for name in Layout(program[1]).records()
                                  for offset, picture in Layout(program[1]).cells(name)))

    def test_800_the_same_code_again(self):
        for program, _ in random_programs(2, 40):
            one, other = compile_program(program), compile_program(program)
            for name in ("files", "size", "constants", "cells", "starts", "instructions"):
                self.assertEqual(getattr(one, name), getattr(other, name))
            self.assertEqual(list(one.cells), list(other.cells))

    def test_801_ways_round(self):
        for program in list(self.programs()) + [program for program, _ in random_programs(4, 100)]:
            self.assertFalse(has_ring(compile_program(program)), program[3])

    def test_801_ends(self):
        for program in list(self.programs()) + [program for program, _ in random_programs(4, 60)]:
            for row in compile_program(program).instructions:
                if row[0] == "halt":
                    self.assertIn(row[1], ("end", "steps", "stop", "index"))

    def test_801_integers(self):
        push = Machine.push
        seen = []

        def check_push(machine, value):
            seen.append(type(value))
            push(machine, value)

        with mock.patch.object(Machine, "push", check_push):
            for program in self.programs():
                run_code(compile_program(program), Layout(program[1]).first_storage(), LINES[1], 50)
        self.assertEqual(set(seen), {int})

    def test_801_scales(self):
        # 60 is the greatest scale that an expression may have.
        data = "01 a picture v9(18) . 01 b picture s9(18) . 01 c picture v9(6) . 01 r picture s9(18) ."
        deep = "a * a * a * c"
        for text in [f"set r to {deep} * b + b .", f"if {deep} < b then show 'a' . end . if b >= {deep} then show 'b' . end .", f"divide {deep} by b + 1 giving r .",
                     f"divide b + 1 by {deep} giving r remainder a else show 'no' . end .", f"set a rounded to {deep} - b . show a ."]:
            for fill in ["", "move 0.99999999999999999 to a . move 999999999999999999 to b . move 0.000001 to c .", "move 0.5 to a . move -3 to b . move 0.25 to c ."]:
                program = build(data, f"{fill} {text}")
                self.check_same(program, compile_program(program), {}, 20)

    def test_3_what_is_passed_stays(self):
        program = build(DATA, TEXTS[7], FILES)
        code = compile_program(program)
        self.assertEqual(program, build(DATA, TEXTS[7], FILES))
        before = code.instructions
        lines = {"f": (RIGHT,), "h": ()}
        run_code(code, Layout(program[1]).first_storage(), lines, 50)
        self.assertEqual(code.instructions, before)
        self.assertEqual(lines, {"f": (RIGHT,), "h": ()})


if __name__ == "__main__":
    unittest.main()
