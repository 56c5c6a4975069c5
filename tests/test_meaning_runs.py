import itertools
import unittest

from cardwright.layout import Layout
from cardwright.meaning import compare_texts, order_of, run_plain, sorted_rows
from cardwright.storage import record_holds
from running import RunCase, build

RELATIONS = ["=", "<", ">", "<=", ">=", "<>"]


class TestRuns(RunCase):
    DATA = "01 i picture 9 . 01 t . 05 c picture 9 occurs 3 ."

    def test_601_ends(self):
        self.check_run(build(self.DATA, ""), {}, left=1000)
        self.check_run(build(self.DATA, "stop ."), {}, end="stop", left=999)
        self.check_run(build(self.DATA, "set c ( i ) to 5 ."), {"t": "000"}, end="index", left=999)
        self.check_run(build(self.DATA, "set i to 1 . set c ( i ) to 5 ."), {"t": "500"}, left=998)
        self.check_run(build(self.DATA, "set i to 1 . stop . set i to 2 ."), {"i": "1"}, end="stop", left=998)
        self.check_run(build(self.DATA, "set i to 1 . set i to 2 ."), {"i": "1"}, end="steps", left=0, steps=1)
        # Only the first paragraph is executed.
        self.check_run(build(self.DATA, "set i to 1 . next . set i to 2 ."), {"i": "1"}, left=999)

    def test_601_no_steps(self):
        self.check_run(build(self.DATA, ""), {"i": "0"}, left=0, steps=0)
        self.check_run(build(self.DATA, "stop ."), {"i": "0"}, end="steps", left=0, steps=0)
        self.check_run(build(self.DATA, "stop ."), {}, end="stop", left=0, steps=1)
        # The step comes ahead of what the statement does.
        self.check_run(build(self.DATA, "set c ( i ) to 5 ."), {}, end="steps", left=0, steps=0)
        self.check_run(build(self.DATA, "show 'a' ."), {}, end="steps", steps=0, shown=())

    def test_601_steps_of_statements(self):
        files = "input f record i . output g record i ."
        for text in ["move 1 to i .", "set i to 1 .", "divide 1 by 1 giving i .", "divide 1 by 0 giving i .", "read f end .", "write g .", "show i .",
                     "sort c by c .", "clear i .", "perform next .", "perform next 0 times ."]:
            self.check_steps(build(self.DATA, text + " next .", files), 1, lines={"f": ("1",)})
        self.check_steps(build(self.DATA, "stop ."), 1, end="stop")
        self.check_steps(build(self.DATA, "set c ( i ) to 1 ."), 1, end="index")
        self.check_steps(build(self.DATA, "if 1 = 1 then set i to 1 . set i to 2 . else stop . end ."), 3)
        self.check_steps(build(self.DATA, "if 1 = 2 then set i to 1 . set i to 2 . else stop . end ."), 2, end="stop")
        self.check_steps(build(self.DATA, "if 1 = 2 then set i to 1 . end ."), 1)
        self.check_steps(build(self.DATA, "set i to 10 else clear i . show i . end ."), 3)
        self.check_steps(build(self.DATA, "set i to 9 else clear i . end ."), 1)
        self.check_steps(build(self.DATA, "divide 1 by 0 giving i else clear i . end ."), 2)

    def test_601_steps_of_ways(self):
        # One for the statement, one for each time, and one for each statement that is performed.
        for way, many in [("", 2), ("1 times", 3), ("3 times", 7), ("until 1 = 1", 2), ("until i = 2", 6), ("varying j from 1 by 1 until j > 2", 6),
                          ("varying j from 1 by 1 until j > 0", 2)]:
            self.check_steps(build("01 i picture 9 . 01 j picture 9 .", f"perform add-one {way} . add-one . set i to i + 1 ."), many)
        self.check_steps(build("", "perform a thru c 2 times . a . show 'a' . b . c . show 'c' ."), 7)

    def test_602_outcome(self):
        data = "01 r . 05 n picture 9 . 05 w picture x(2) . 01 s picture x ."
        outcome = run_plain(build(data, "move 'ab' to w ."), {}, 5)
        self.assertEqual(outcome, ("end", 4, "0ab ", (), ()))
        self.assertEqual([type(part) for part in outcome], [str, int, str, tuple, tuple])
        one = build(data, "write f . move 'ab' to w . write f .", "output f record r .")
        self.assertEqual(run_plain(one, {}, 9), ("end", 6, "0ab ", (("f", ("0  ", "0ab")),), ()))
        files = "output g record r . input h record s . output f record r . output e record s ."
        three = build(data, "write f . move 'z' to s . write e . set n to 1 . write g . write f . show 'a' n . show s .", files)
        self.assertEqual(run_plain(three, {"h": ()}, 8), (
            "end", 0, "1  z", (("g", ("1  ",)), ("f", ("0  ", "1  ")), ("e", ("z",))), ("a1", "z")))
        self.assertEqual(run_plain(build(data, "", files), {"h": ("a",)}, 0), ("end", 0, "0   ", (("g", ()), ("f", ()), ("e", ())), ()))
        self.assertEqual(run_plain(build("", "stop ."), {}, 1), ("stop", 0, "", (), ()))

    def test_602_outputs_at_each_end(self):
        data = "01 r . 05 n picture 9 . 05 c picture 9 occurs 2 ."
        for text, end in [("stop .", "stop"), ("set c ( n ) to 1 .", "index"), ("", "end")]:
            program = build(data, f"write f . show n . set n to 3 . {text}", "output f record r .")
            self.assertEqual(run_plain(program, {}, 3)[:4], ({"": "end"}.get(text, "steps"), 0, "300", (("f", ("000",)),)))
            self.assertEqual(run_plain(program, {}, 4)[0], end)
            self.assertEqual(run_plain(program, {}, 4)[2:], ("300", (("f", ("000",)),), ("0",)))

    def test_3_what_is_passed_stays(self):
        program = build("01 r . 05 n picture 9 .", "read f end . read f end . write g .", "input f record r . output g record r .")
        lines = {"f": ("1", "2", "3")}
        first = run_plain(program, lines, 100)
        self.assertEqual(first, ("end", 97, "2", (("g", ("2",)),), ()))
        self.assertEqual(run_plain(program, lines, 100), first)
        self.assertEqual(lines, {"f": ("1", "2", "3")})


class TestReferences(RunCase):
    DATA = """01 t . 05 c picture 9 occurs 3 . 05 r occurs 2 . 10 w picture x . 10 d picture 99 occurs 4 .
              01 i picture 9 . 01 j picture 9(3) . 01 out picture 99 ."""

    def test_603_numbers(self):
        self.check_run(build(self.DATA, "set c ( 1 ) to 1 . set c ( 3 ) to 3 ."), {"c": "103"})
        self.check_run(build(self.DATA, "move 'q' to w ( 2 ) . set d ( 1 , 4 ) to 14 . set d ( 2 , 1 ) to 21 ."), {"r": " 00000014q21000000"})

    def test_603_every_place(self):
        for row, at in itertools.product(range(1, 3), range(1, 5)):
            program = build(self.DATA, f"set i to {row} . set j to {at} . set d ( i , j ) to 77 . set out to d ( {row} , {at} ) .")
            place = 1 + 9 * (row - 1) + 2 * (at - 1)
            text = " 00000000 00000000"
            self.check_run(program, {"r": text[:place] + "77" + text[place + 2:], "out": "77"})

    def test_603_shifts(self):
        self.check_run(build(self.DATA, "set i to 1 . set c ( i + 1 ) to 2 . set i to 4 . set c ( i - 1 ) to 3 . set c ( i - 3 ) to 1 ."), {"c": "123"})
        self.check_run(build(self.DATA, "set c ( i + 3 ) to 9 ."), {"c": "009"})
        self.check_run(build(self.DATA, "set j to 50 . set d ( j - 48 , i + 2 ) to 9 ."), {"r": " 00000000 00090000"})

    def test_603_edges(self):
        for index, good in [(0, False), (1, True), (3, True), (4, False)]:
            end = "end" if good else "index"
            self.check_run(build(self.DATA, f"set i to {index} . set c ( i ) to 5 ."), {}, end=end)
            self.check_run(build(self.DATA, f"set i to {index} . move c ( i ) to out ."), {}, end=end)
            self.check_run(build(self.DATA, f"set j to {index + 10} . clear c ( j - 10 ) ."), {}, end=end)
        for index, good in [(0, False), (1, True), (4, True), (5, False), (50, False)]:
            end = "end" if good else "index"
            self.check_run(build(self.DATA, f"set j to {index} . set d ( 2 , j ) to 5 ."), {}, end=end)
        for index, good in [(0, False), (1, True), (2, True), (3, False)]:
            end = "end" if good else "index"
            self.check_run(build(self.DATA, f"set j to {index} . set d ( j , 4 ) to 5 ."), {}, end=end)
            self.check_run(build(self.DATA, f"set j to {index} . set d ( j + 1 , 4 ) to 5 ."), {}, end="end" if index < 2 else "index")
        self.check_run(build(self.DATA, "set j to 999 . set d ( j , 4 ) to 5 ."), {}, end="index")

    def test_603_numbers_that_are_out_of_their_range(self):
        self.check_run(build(self.DATA, "set c ( i - 50 ) to 5 ."), {"c": "000"}, end="index")
        self.check_run(build(self.DATA, "set c ( i + 50 ) to 5 ."), {"c": "000"}, end="index")

    def test_603_text(self):
        self.check_run(build(self.DATA, "move 'q' to w ( 2 ) . set d ( 2 , 1 ) to 5 . show r ( 2 ) '.' r ( 1 ) '.' w ( 2 ) '.' d ( 2 , 1 ) ."), {},
                       shown=("q05000000. 00000000.q.5",))


class TestValues(RunCase):
    DATA = """01 a picture s9(3)v99 . 01 b picture 9(18) . 01 c picture v9(18) . 01 d picture s9(9)v9(9) . 01 r picture s9(9)v9(9) .
              01 t . 05 e picture 9 occurs 2 . 01 k picture 9 ."""

    def check_value(self, expression, text, before=""):
        self.check_run(build(self.DATA, f"set a to -2.50 . {before} set r to {expression} else show 'no' . end . show r ."), {}, shown=(text,))

    def test_604_values(self):
        self.check_value("a", "-2.5")
        self.check_value("5", "5")
        self.check_value("-0.25", "-0.25")
        self.check_value("- a", "2.5")
        self.check_value("- - a", "-2.5")
        self.check_value("a + 1", "-1.5")
        self.check_value("a - 1", "-3.5")
        self.check_value("1 - a - a", "6")
        self.check_value("1 - ( a - a )", "1")
        self.check_value("a * a", "6.25")
        self.check_value("2 + 3 * 4", "14")
        self.check_value("( 2 + 3 ) * - 4", "-20")
        self.check_value("a * 0", "0")

    def test_604_exact(self):
        nine = "999999999999999999"
        self.check_value("b * b - b * b + 0.5", "0.5", f"set b to {nine} .")
        self.check_value("( c * c * b * b - 1 ) * 0", "0", f"set b to {nine} . set c to 0.{nine[1:]} .")
        # 10 ** -36 times 10 ** 18 is exact, too: nothing is cut off in between.
        self.check_value("c * c * b * b", "1", "set b to 100000000000000000 . set c to 0.00000000000000001 .")
        self.check_value("c * c * b", "0", "set b to 100000000000000000 . set c to 0.00000000000000001 .")
        self.check_run(build(self.DATA, "set c to 0.00000000000000001 . if c * c * c = 0 then show 'zero' . end . if c * c * c > 0 then show 'more' . end ."),
                       {}, shown=("more",))

    def test_604_index_ends_the_run(self):
        self.check_run(build(self.DATA, "set a to 1 . set r to a * 0 + e ( k ) ."), {"a": "+00100"}, end="index")
        self.check_run(build(self.DATA, "set r to e ( k ) * 0 ."), {}, end="index")


class TestConditions(RunCase):
    DATA = """01 n picture s99v9 . 01 w picture x(4) . 01 v picture x(2) . 01 z picture zz9 . 01 t . 05 e picture 9 occurs 2 .
              01 k picture 9 . 01 g . 05 g1 picture 99 . 05 g2 picture x ."""

    def check_truth(self, condition, truth, before=""):
        program = build(self.DATA, f"{before} if {condition} then show 'yes' . else show 'no' . end .")
        self.check_run(program, {}, shown=("yes" if truth else "no",))

    def test_605_order_of(self):
        for op, signs in [("=", [0]), ("<", [-1]), (">", [1]), ("<=", [-1, 0]), (">=", [0, 1]), ("<>", [-1, 1])]:
            for sign in [-1, 0, 1]:
                self.assertIs(order_of(op, sign), sign in signs, (op, sign))
            for size in [2, 7, 10 ** 30]:
                self.assertIs(order_of(op, size), 1 in signs, op)
                self.assertIs(order_of(op, -size), -1 in signs, op)

    def test_605_compare_texts(self):
        for one, other, sign in [("", "", 0), ("a", "a", 0), ("a", "a  ", 0), ("a  ", "a", 0), ("", "   ", 0), ("a", "b", -1), ("b", "a", 1), ("ab", "b", -1),
                                 ("b", "ab", 1), ("a", "a!", -1), ("a!", "a", 1), ("A", "a", -1), ("9", "A", -1), ("a b", "ab", -1), ("~", "z", 1),
                                 ("10", "9", -1), ("a", "ab", -1), ("", "~", -1), (" a", "a", -1), ("aa", "a ", 1)]:
            self.assertEqual(compare_texts(one, other), sign, (one, other))

    def test_605_compare(self):
        for op, first, second, third in zip(RELATIONS, [0, 1, 0, 1, 0, 1], [1, 0, 0, 1, 1, 0], [0, 0, 1, 0, 1, 1]):
            self.check_truth(f"n {op} 2", first == 1, "set n to 1.9 .")
            self.check_truth(f"n {op} 2.0", second == 1, "set n to 2 .")
            self.check_truth(f"n {op} -2", third == 1, "set n to -1.9 .")
        self.check_truth("n * 2 = 5 - 0.80", True, "set n to 2.1 .")
        self.check_truth("0.1 + 0.2 = 0.3", True)

    def test_605_texts(self):
        for op, less, equal, more in zip(RELATIONS, [0, 1, 0, 1, 0, 1], [1, 0, 0, 1, 1, 0], [0, 0, 1, 0, 1, 1]):
            self.check_truth(f"text w {op} v", equal == 1, "move 'ab' to w . move 'ab' to v .")
            self.check_truth(f"text v {op} w", less == 1, "move 'ab!' to w . move 'ab' to v .")
            self.check_truth(f"text w {op} 'a'", more == 1, "move 'b' to w .")
        self.check_truth("text 'a' = 'a   '", True)
        self.check_truth("text ' a' = 'a'", False)
        self.check_truth("text z = '  5'", True, "set z to 5 .")
        self.check_truth("text '5' < z", False, "set z to 5 .")
        self.check_truth("text g = '07q'", True, "set g1 to 7 . move 'q' to g2 .")

    def test_605_digits(self):
        for text, truth in [("1234", True), ("0000", True), ("123", False), (" 123", False), ("12a4", False), ("-123", False), ("1.23", False), ("", False)]:
            before = f"move '{text}' to w ." if text else ""
            self.check_truth("digits w", truth, before)
        self.check_truth("digits n", False)
        self.check_truth("digits g1", True)
        self.check_truth("digits z", False, "set z to 12 .")
        self.check_truth("digits z", True, "set z to 120 .")
        self.check_truth("digits g", False)
        self.check_truth("digits g", True, "move '5' to g2 .")
        self.check_truth("digits e ( 2 )", True)

    def test_605_junctions(self):
        for first, second in itertools.product([False, True], repeat=2):
            pair = [f"1 = {2 - truth}" for truth in (first, second)]
            self.check_truth(f"{pair[0]} and {pair[1]}", first and second)
            self.check_truth(f"{pair[0]} or {pair[1]}", first or second)
            self.check_truth(f"not {pair[0]} and {pair[1]}", not first and second)
            self.check_truth(f"not [ {pair[0]} or {pair[1]} ]", not (first or second))
            self.check_truth(f"not not {pair[0]}", first)

    def test_605_second_parts(self):
        wrong = "e ( k ) = 0"
        for condition, truth in [(f"1 = 2 and {wrong}", False), (f"1 = 1 or {wrong}", True), (f"not [ 1 = 1 or {wrong} ]", False),
                                 (f"[ 1 = 2 and {wrong} ] or 1 = 1", True), (f"1 = 2 and [ 1 = 1 or {wrong} ]", False)]:
            self.check_truth(condition, truth)
        for condition in [f"1 = 1 and {wrong}", f"1 = 2 or {wrong}", f"{wrong} and 1 = 2", f"{wrong} or 1 = 1", f"not {wrong}",
                          "digits e ( k )", f"1 = 1 and 1 = 1 and {wrong}"]:
            self.check_run(build(self.DATA, f"if {condition} then show 'yes' . else show 'no' . end ."), {}, end="index", shown=(), left=999)


class TestSortedRows(unittest.TestCase):
    def test_613_text_keys(self):
        rows = ["bx1", "ay2", "az3", "b 4", "Ay5"]
        self.assertEqual(sorted_rows(rows, 0, ("text", 1), False), ["Ay5", "ay2", "az3", "bx1", "b 4"])
        self.assertEqual(sorted_rows(rows, 0, ("text", 1), True), ["bx1", "b 4", "ay2", "az3", "Ay5"])
        self.assertEqual(sorted_rows(rows, 0, ("text", 2), False), ["Ay5", "ay2", "az3", "b 4", "bx1"])
        self.assertEqual(sorted_rows(rows, 1, ("text", 1), True), ["az3", "ay2", "Ay5", "bx1", "b 4"])
        self.assertEqual(rows, ["bx1", "ay2", "az3", "b 4", "Ay5"])

    def test_613_number_keys(self):
        rows = ["+05a", "-05b", "-00c", "+00d", "-70e", "+05f"]
        rows.remove("-00c")
        picture = ("number", True, 2, 0)
        self.assertEqual(sorted_rows(rows, 0, picture, False), ["-70e", "-05b", "+00d", "+05a", "+05f"])
        self.assertEqual(sorted_rows(rows, 0, picture, True), ["+05a", "+05f", "+00d", "-05b", "-70e"])
        self.assertEqual(sorted_rows(tuple(rows), 0, picture, True), ["+05a", "+05f", "+00d", "-05b", "-70e"])

    def test_613_edited_keys(self):
        picture = ("edited", "zz9", 3, 0, ".-")
        rows = ["  5-", " 10 ", "  9 ", "100-", "  0 ", " 10 "]
        self.assertEqual(sorted_rows(rows, 0, picture, False), ["100-", "  5-", "  0 ", "  9 ", " 10 ", " 10 "])
        self.assertEqual(sorted_rows(rows, 0, picture, True), [" 10 ", " 10 ", "  9 ", "  0 ", "  5-", "100-"])

    def test_613_few_rows(self):
        self.assertEqual(sorted_rows([], 0, ("text", 1), False), [])
        self.assertEqual(sorted_rows(["a"], 0, ("text", 1), True), ["a"])
        self.assertIsInstance(sorted_rows(("b", "a"), 0, ("text", 1), False), list)


class TestHolding(unittest.TestCase):
    def test_615_at_every_step(self):
        data = """01 r . 05 n picture s99v9 . 05 e picture zz9.9- occurs 3 . 05 w picture x(3) . 05 k picture 9 ."""
        text = """read f bad show 'bad' . end . perform work 3 times . sort e by e . work . set n to n * -7.5 - 3 . move n to e ( k + 1 ) . move e ( 1 ) to w .
                  set k to k + 1 . divide n by 3 giving e ( k ) rounded remainder n . clear e ( 3 ) . write g . read f at end clear r . end ."""
        program = build(data, text, "input f record r . output g record r .")
        layout = Layout(program[1])
        lines = {"f": ("", "+001  0.0   0.0   0.0 abc0", "-123  1.5-  0.0  12.3-   1")}
        last = run_plain(program, lines, 10 ** 6)
        self.assertNotEqual(last[0], "steps")
        for steps in range(10 ** 6 - last[1] + 1):
            outcome = run_plain(program, lines, steps)
            self.assertTrue(record_holds(layout.size(), layout.cells("r"), outcome[2]), (steps, outcome[2]))
            for line in outcome[3][0][1]:
                self.assertTrue(record_holds(layout.size(), layout.cells("r"), line), line)


if __name__ == "__main__":
    unittest.main()
