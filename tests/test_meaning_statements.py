import unittest

from cardwright.meaning import run_plain
from running import RunCase, build, part_of

PERCENT = chr(37)


class TestMove(RunCase):
    DATA = """01 w picture x(4) . 01 n picture s99v9 . 01 m picture 9(3) . 01 e picture zz9.99- .
              01 t . 05 v picture x(2) occurs 3 . 05 d picture 99 occurs 3 . 01 k picture 9 . 01 g . 05 g1 picture 9 . 05 g2 picture x .
              01 h . 05 h1 picture 9 . 05 h2 picture x . 01 u picture x(2) ."""

    def check_move(self, before, move, name, text):
        self.check_run(build(self.DATA, f"{before} move {move} to {name} ."), {name.partition(" ")[0]: text})

    def test_606_to_text(self):
        self.check_move("", "'ab'", "w", "ab  ")
        self.check_move("", "'abcdef'", "w", "abcd")
        self.check_move("", "'it''s'", "w", "it's")
        self.check_move("move 'abc' to w .", "w", "u", "ab")
        self.check_move("move 'z' to u .", "u", "w", "z   ")
        self.check_move("move -5.25 to e .", "e", "w", "  5.")
        self.check_move("move 123 to m .", "m", "w", "123 ")
        self.check_move("move 123 to m .", "m", "u", "12")
        self.check_move("move 5 to g1 . move 'q' to g2 .", "g", "w", "5q  ")
        self.check_move("move 5 to d ( 2 ) .", "t", "w", "    ")

    def test_606_signs_are_left_out(self):
        program = build("01 n picture s99 . 01 w picture x(3) .", "set n to -7 . move n to w .")
        self.check_run(program, {"w": "07 "})

    def test_606_to_numbers(self):
        self.check_move("", "-12.39", "n", "-123")
        self.check_move("", "1234.5", "n", "+345")
        self.check_move("", "-12.9", "m", "012")
        self.check_move("", "-0.05", "n", "+000")
        self.check_move("", "-7.125", "e", "  7.12-")
        self.check_move("", "1234.5", "e", "234.50 ")
        self.check_move("set n to -5.5 .", "n", "e", "  5.50-")
        self.check_move("set n to -5.5 .", "n", "m", "005")
        self.check_move("set e to -99.99 .", "e", "n", "-999")
        self.check_move("set e to 123.45 .", "e", "m", "123")
        self.check_move("set m to 123 .", "m", "n", "+230")

    def test_606_groups(self):
        self.check_move("set g1 to 7 . move 'x' to g2 .", "g", "h", "7x")
        self.check_move("set g1 to 7 .", "g", "u", "7 ")

    def test_606_tables(self):
        self.check_move("move 'a' to v ( 1 ) . set k to 3 .", "v ( 1 )", "v ( k )", "a   a ")
        self.check_move("set d ( 2 ) to 42 . set k to 2 .", "d ( k )", "d ( k + 1 )", "004242")
        self.check_move("set d ( 2 ) to 42 . set k to 2 .", "d ( k )", "w", "42  ")
        self.check_move("set d ( 2 ) to 42 .", "'q'", "v ( 2 )", "  q   ")

    def test_606_the_source_is_taken_first(self):
        # The text is that of the source ahead of the move, also where the target is the source itself or its index.
        self.check_move("move 'abcd' to w .", "w", "w", "abcd")
        self.check_run(build(self.DATA, "set k to 1 . set d ( 1 ) to 3 . move d ( k ) to k ."), {"k": "3"})
        for move in ["'a' to v ( k )", "v ( k ) to w", "d ( k + 4 ) to d ( 1 )", "5 to d ( k )"]:
            self.check_run(build(self.DATA, f"move {move} ."), {"t": "      000000", "w": "    "}, end="index", left=999)


class TestSet(RunCase):
    DATA = "01 n picture s9v9 . 01 m picture 99 . 01 e picture z9.9 . 01 t . 05 c picture 9 occurs 2 . 01 k picture 9 ."

    def check_set(self, statement, texts, shown):
        self.check_run(build(self.DATA, f"set n to 1 . set m to 42 . {statement} else show 'no' . show n . end ."), texts, shown=shown)

    def test_607_stored(self):
        self.check_set("set m to 7", {"m": "07"}, ())
        self.check_set("set n to -9.9", {"n": "-99"}, ())
        self.check_set("set e to m + 0.5", {"e": "42.5"}, ())
        self.check_set("set c ( 2 ) to 9", {"t": "09"}, ())

    def test_607_rounded_and_cut_off(self):
        for value, cut, rounded in [("1.25", "+12", "+13"), ("1.249", "+12", "+12"), ("-1.25", "-12", "-13"), ("-1.249", "-12", "-12"),
                                    ("-0.04", "+00", "+00"), ("-0.05", "+00", "-01"), ("9.94", "+99", "+99")]:
            self.check_set(f"set n to {value}", {"n": cut}, ())
            self.check_set(f"set n rounded to {value}", {"n": rounded}, ())

    def test_607_what_does_not_suit(self):
        for statement in ["set n to 10", "set n rounded to 9.95", "set n to -10", "set m to 100", "set m to -1", "set m rounded to 99.5", "set e to 100",
                          "set e to -1", "set c ( 1 ) to 10"]:
            self.check_set(statement, {"n": "+10", "m": "42", "e": " 0.0", "t": "00"}, ("no", "1"))
        self.check_set("set n to 9.95", {"n": "+99"}, ())
        self.check_set("set m to -0.9", {"m": "00"}, ())
        self.check_set("set m rounded to -0.4", {"m": "00"}, ())
        self.check_set("set m to 99.9", {"m": "99"}, ())

    def test_607_without_other_statements(self):
        self.check_run(build(self.DATA, "set m to 42 . set m to 100 . set n to 1 ."), {"m": "42", "n": "+10"}, left=997)

    def test_607_order(self):
        self.check_run(build(self.DATA, "set c ( k ) to 1 else show 'no' . end ."), {"t": "00"}, end="index", shown=())
        self.check_run(build(self.DATA, "set c ( k ) to 100 else show 'no' . end ."), {"t": "00"}, end="index", shown=())
        self.check_run(build(self.DATA, "set k to 1 . set k to c ( k ) + 2 ."), {"k": "2"})


class TestDivide(RunCase):
    DATA = """01 q picture s99v9 . 01 r picture s99v9(3) . 01 u picture 9 . 01 e picture z9.99- . 01 t . 05 c picture s9 occurs 2 .
              01 k picture 9 ."""

    def check_divide(self, statement, texts, shown=()):
        self.check_run(build(self.DATA, f"set q to 1 . set r to 1 . set u to 1 . {statement} else show 'no' . end ."), texts, shown=shown)

    def test_608_quotients(self):
        for above, below, cut, rounded in [("7", "2", "+035", "+035"), ("2", "3", "+006", "+007"), ("-2", "3", "-006", "-007"), ("2", "-3", "-006", "-007"),
                                           ("-2", "-3", "+006", "+007"), ("1", "0.25", "+040", "+040"), ("0.15", "1", "+001", "+002"), ("0", "-7", "+000", "+000"),
                                           ("-0.14", "1", "-001", "-001"), ("0.01", "1", "+000", "+000"), ("1 + 2", "2 * 3", "+005", "+005")]:
            self.check_divide(f"divide {above} by {below} giving q", {"q": cut})
            self.check_divide(f"divide {above} by {below} giving q rounded", {"q": rounded})
        self.check_divide("divide 2 by 3 giving e rounded", {"e": " 0.67 "})
        self.check_divide("divide -2 by 3 giving e", {"e": " 0.66-"})
        self.check_divide("divide 7 by 2 giving u", {"u": "3"})
        self.check_divide("divide 7 by 2 giving u rounded", {"u": "4"})

    def test_608_remainders(self):
        # The remainder belongs to the quotient that is cut off, also if the other one is rounded.
        for rounded, quotient in [("", "+006"), ("rounded", "+007")]:
            self.check_divide(f"divide 2 by 3 giving q {rounded} remainder r", {"q": quotient, "r": "+00200"})
        self.check_divide("divide 7 by 2 giving u rounded remainder q", {"u": "4", "q": "+010"})
        self.check_divide("divide -7 by 2 giving q remainder r", {"q": "-035", "r": "+00000"})
        self.check_divide("divide -7.3 by 2 giving c ( 1 ) remainder q", {"t": "-3+0", "q": "-013"})
        self.check_divide("divide 7.3 by -2 giving c ( 1 ) remainder q", {"t": "-3+0", "q": "+013"})
        self.check_divide("divide 1 by 0.07 giving q remainder r", {"q": "+142", "r": "+00006"})

    def test_608_remainders_are_cut_off(self):
        self.check_divide("divide 1.999 by 1 giving u remainder q", {"u": "1", "q": "+009"})
        self.check_divide("divide -1.999 by -1 giving u remainder q", {"u": "1", "q": "-009"})
        self.check_divide("divide 5.99 by 3 giving u remainder c ( 2 )", {"u": "1", "t": "+0+2"})

    def test_608_what_does_not_suit(self):
        for statement in ["divide 1 by 0 giving q", "divide 1 by 0 giving q remainder r", "divide 0 by 0 giving q rounded", "divide 1 by u - 1 giving q",
                          "divide 100 by 1 giving q", "divide 99.95 by 1 giving q rounded", "divide -1 by 1 giving u", "divide 100 by 1 giving q remainder r",
                          "divide 10 by 1 giving u remainder q", "divide -1 by 10 giving c ( 1 ) remainder u",
                          "divide 1000 by 300 giving u remainder q"]:
            self.check_divide(statement, {"q": "+010", "r": "+01000", "u": "1", "t": "+0+0"}, ("no",))
        self.check_divide("divide 99.95 by 1 giving q", {"q": "+999"})
        self.check_divide("divide -0.9 by 1 giving u", {"u": "0"})
        self.check_run(build(self.DATA, "set u to 1 . divide 1 by 0 giving u . set k to 1 ."), {"u": "1", "k": "1"}, left=997)

    def test_608_the_same_field(self):
        self.check_divide("divide 7 by 2 giving q remainder q", {"q": "+000"})
        self.check_divide("divide 7 by 2 giving u remainder u", {"u": "1"})
        self.check_divide("divide 9 by 4 giving c ( 1 ) rounded remainder c ( k + 1 )", {"t": "+1+0"})
        self.check_divide("divide 90 by 8 giving u remainder u", {"u": "1"}, ("no",))

    def test_608_order(self):
        # The places are taken ahead of what is written, and ahead of the look at the divisor.
        self.check_run(build(self.DATA, "set k to 1 . divide 2 by 1 giving k remainder c ( k ) ."), {"k": "2", "t": "+0+0"})
        self.check_run(build(self.DATA, "set c ( 1 ) to 5 . set k to 1 . divide 2 by 1 giving k remainder c ( k ) ."), {"k": "2", "t": "+0+0"})
        for statement in ["divide c ( k ) by 0 giving q", "divide 1 by c ( k ) giving q", "divide 1 by 0 giving c ( k )", "divide 1 by 0 giving q remainder c ( k )",
                          "divide 1 by 1 giving q remainder c ( k )", "divide 100 by 1 giving q remainder c ( k )"]:
            self.check_run(build(self.DATA, f"{statement} else show 'no' . end ."), {"q": "+000"}, end="index", left=999, shown=())


class TestPerform(RunCase):
    DATA = "01 n picture s99v9 . 01 i picture s99v9 . 01 m picture 99 . 01 w picture 9 . 01 t . 05 c picture 9 occurs 3 . 01 k picture 9 . 01 y picture s9 ."
    BODY = " once . set m to m + 1 ."

    def check_perform(self, text, texts, **more):
        return self.check_run(build(self.DATA, text), texts, **more)

    def test_610_once_and_ranges(self):
        body = " a . show 'a' . b . show 'b' . show 'c' . none . d . show 'd' ."
        for names, shown in [("a", "a"), ("a thru a", "a"), ("b", "bc"), ("a thru b", "abc"), ("a thru d", "abcd"), ("b thru none", "bc"), ("none", ""),
                             ("none thru d", "d"), ("d", "d")]:
            self.check_perform(f"show '(' . perform {names} . show ')' . {body}", {}, shown=tuple("(" + shown + ")"))

    def test_610_times(self):
        for many, text in [("0", "00"), ("1", "01"), ("7", "07"), ("w", "00"), ("n", "00")]:
            self.check_perform(f"perform once {many} times . {self.BODY}", {"m": text})
        for value, text in [("2.9", "02"), ("0.9", "00"), ("-0.9", "00"), ("-3", "00"), ("5", "05")]:
            self.check_perform(f"set n to {value} . perform once n times . {self.BODY}", {"m": text})
        # The number is taken once.
        self.check_perform("set w to 3 . perform once w times . once . set w to 9 . set m to m + 1 .", {"m": "03"})
        self.check_perform("set c ( 2 ) to 4 . set k to 1 . perform once c ( k + 1 ) times . once . set k to 3 . set m to m + 1 .", {"m": "04"})
        self.check_perform(f"perform once c ( k ) times . {self.BODY}", {"m": "00"}, end="index", left=999)

    def test_610_steps_of_times(self):
        self.check_steps(build(self.DATA, "perform once 0 times . once . stop ."), 1)
        self.check_steps(build(self.DATA, "perform once 3 times . once ."), 4)
        self.check_run(build(self.DATA, "perform once 999999999999999999 times . once ."), {}, end="steps", left=0, steps=1000)

    def test_610_until(self):
        self.check_perform(f"perform once until m = 4 . {self.BODY}", {"m": "04"}, left=1000 - 1 - 5 - 4)
        self.check_perform(f"perform once until 1 = 1 . {self.BODY}", {"m": "00"}, left=998)
        self.check_perform(f"perform once until m > 4 or m * 2 = 6 . {self.BODY}", {"m": "03"})
        self.check_perform(f"perform once until 1 = 2 . {self.BODY}", {"m": "99"}, end="steps", left=0)
        self.check_perform(f"perform once until c ( m + 1 ) = 1 . {self.BODY}", {"m": "03"}, end="index", left=1000 - 1 - 4 - 3)

    def test_610_varying(self):
        self.check_perform("perform once varying i from 1 by 1 until i > 3 . once . show i .", {"i": "+040"}, shown=("1", "2", "3"), left=1000 - 1 - 4 - 3)
        self.check_perform("perform once varying i from 3 by -1.5 until i < 0 . once . show i .", {"i": "-015"}, shown=("3", "1.5", "0"))
        self.check_perform("perform once varying i from 3 by 1 until 1 = 1 . once . show i .", {"i": "+030"}, shown=(), left=998)
        # The start is moved: cut off and trimmed. A sum is cut off.
        self.check_perform("perform once varying i from -123.456 by 1 until 1 = 1 . once .", {"i": "-234"})
        self.check_perform("perform once varying w from -3.9 by 0.6 until w > 5 . once . show w .", {"w": "3"}, shown=("3",) * 3, end="steps", left=0, steps=7)
        self.check_perform("perform once varying i from 0 by 0.25 until i > 0.3 . once . show i .", {"i": "+004"}, shown=("0", "0.2"))
        self.check_perform("perform once varying w from 6 by 1.9 until w = 9 . once . show w .", {"w": "9"}, shown=("6", "7", "8"))

    def test_610_varying_beyond_its_picture(self):
        self.check_perform("perform once varying w from 8 by 1 until 1 = 2 . once . show w .", {"w": "9"}, shown=("8", "9", "9", "9"), end="steps", left=0, steps=9)
        self.check_perform("perform once varying w from 1 by -1 until 1 = 2 . once . show w .", {"w": "0"}, shown=("1", "0", "0"), end="steps", left=0, steps=8)
        self.check_perform("perform once varying y from -8 by -1 until m = 3 . once . show y . set m to m + 1 .", {"y": "-9"}, shown=("-8", "-9", "-9"))

    def test_610_varying_evaluates_again(self):
        # The pace and the place of the field are evaluated each time, behind the performing.
        self.check_perform("perform once varying i from 1 by m until i > 20 . once . set m to m + 2 . show i .", {}, shown=("1", "3", "7", "13"))
        self.check_perform("perform once varying c ( k + 1 ) from 4 by 1 until m = 3 . once . show c ( 1 ) c ( 2 ) c ( 3 ) . set k to m . set m to m + 1 .",
                           {"t": "511"}, shown=("400", "500", "510"))
        self.check_perform("perform once varying c ( k ) from 1 by 1 until 1 = 1 . once .", {"t": "000"}, end="index", left=999)
        self.check_perform("perform once varying c ( k + 1 ) from 1 by 1 until m = 9 . once . set k to 3 . set m to m + 1 .", {"t": "100"}, end="index", left=1000 - 1 - 1 - 2)
        self.check_perform("perform once varying i from c ( k ) by 1 until 1 = 1 . once .", {"i": "+000"}, end="index", left=999)
        self.check_perform("perform once varying i from 1 by c ( k ) until i > 1 . once .", {"i": "+010"}, end="index", left=998)
        self.check_perform("perform once varying i from 1 by c ( k ) until i = 1 . once .", {"i": "+010"})
        # The sum is stored in the field at its new place.
        self.check_perform("set c ( 1 ) to 7 . perform once varying c ( k + 1 ) from c ( 1 ) by c ( k + 1 ) until m = 1 . once . set m to 1 . set k to 1 . set c ( 2 ) to 3 .",
                           {"t": "760"})

    def test_610_nested(self):
        self.check_perform("perform a 2 times . a . perform b until m >= 4 . perform b 3 times . b . set m to m + 1 .", {"m": "10"})
        deep = " ".join(f"q{at} . perform q{at + 1} ." for at in range(9)) + " q9 . set m to 7 ."
        self.check_perform(f"perform q0 . {deep}", {"m": "07"}, left=989)
        self.check_perform("perform a . set m to 5 . a . stop .", {"m": "00"}, end="stop")

    def test_609_if(self):
        self.check_perform("if m = 0 then show 'a' . show 'b' . else show 'c' . end . show 'd' .", {}, shown=("a", "b", "d"))
        self.check_perform("if m = 1 then show 'a' . else show 'c' . show 'e' . end . show 'd' .", {}, shown=("c", "e", "d"))
        self.check_perform("if m = 1 then show 'a' . end . show 'd' .", {}, shown=("d",))
        nest = "if m = 0 then " * 7 + "show 'a' . " + "else show 'b' . end . " * 7
        self.check_perform(nest, {}, shown=("a",), left=992)


class TestFiles(RunCase):
    DATA = "01 r . 05 n picture 99 . 05 w picture x(3) . 01 s . 05 e picture s9 occurs 2 . 01 k picture 99 ."
    FILES = "input f record r . output g record r . input h record s . output i record s ."

    def check_read(self, lines, text, texts, **more):
        given = {"f": tuple(lines), "h": ("+1-2", "x", "-3+4")}
        self.check_run(build(self.DATA, text, self.FILES), texts, lines=given, **more)

    def test_611_lines(self):
        read = "read f at end show 'end' . bad show 'bad' . end ."
        for line, text in [("12abc", "12abc"), ("12a", "12a  "), ("12", "12   "), ("99   ", "99   ")]:
            self.check_read([line], read, {"r": text}, shown=(), left=999)
        for line in ["1", "", "12abcd", "12abc ", "a2abc", "1 abc", " 12", "12\tab", "12" + PERCENT, "-1", "12a\n"]:
            self.check_read([line], read, {"r": "00   "}, shown=("bad",), left=998)
        self.check_read([], read, {"r": "00   "}, shown=("end",), left=998)

    def test_611_bad_lines_are_taken_out(self):
        read = "read f at end show 'end' . bad show 'bad' . end . show r ."
        self.check_read(["12abc", "x", "34", "123456"], " ".join([read] * 6), {"r": "34   "},
                        shown=("12abc", "bad", "12abc", "34   ", "bad", "34   ", "end", "34   ", "end", "34   "))

    def test_611_without_statements(self):
        self.check_read(["x", "12"], "read f end . show n . read f bad show 'bad' . end . show n . read f bad show 'bad' . end . read f at end show 'end' . end .",
                        {"r": "12   "}, shown=("0", "12", "end"))
        self.check_read([], "read f end . read f end .", {"r": "00   "}, left=998)

    def test_611_each_file_by_itself(self):
        self.check_read(["11", "22"], "read h end . show s . read f end . show n . read h bad show 'bad' . end . read h end . show s . read f end . show n . read h at end stop . end .",
                        {"r": "22   ", "s": "-3+4"}, end="stop", shown=("+1-2", "11", "bad", "-3+4", "22"))

    def test_611_two_files_with_one_record(self):
        program = build(self.DATA, "read f end . read h end . read f end . write g .", "input f record r . input h record r . output g record r .")
        self.assertEqual(run_plain(program, {"f": ("11", "22"), "h": ("44abc",)}, 9)[3], (("g", ("22   ",)),))
        self.assertEqual(run_plain(program, {"f": ("11", "2x"), "h": ("44abc",)}, 9)[3], (("g", ("44abc",)),))

    def test_612_write(self):
        text = "write g . read f end . write g . set e ( 2 ) to -7 . write i . write g ."
        outcome = run_plain(build(self.DATA, text, self.FILES), {"f": ("12a",), "h": ()}, 99)
        self.assertEqual(outcome[3], (("g", ("00   ", "12a  ", "12a  ")), ("i", ("+0-7",))))

    def test_612_show(self):
        data = """01 n picture s9(3)v99 . 01 m picture 9(3) . 01 w picture x(3) . 01 e picture zz9.9- . 01 g . 05 g1 picture s9 . 05 g2 picture x .
                  01 t . 05 c picture 9v9 occurs 2 . 01 v picture v99 ."""
        for before, sources, line in [
                ("", "'a b'", "a b"), ("", "'it''s'", "it's"), ("", "5", "5"), ("", "-0.50", "-0.5"), ("", "7", "7"), ("", "0", "0"), ("", "-0.0", "0"),
                ("set n to -12.5 .", "n", "-12.5"), ("set n to -12 .", "n", "-12"), ("", "n", "0"), ("set n to 0.05 .", "n", "0.05"), ("set m to 7 .", "m", "7"),
                ("", "w", "   "), ("move 'ab' to w .", "w 'c'", "ab c"), ("set e to -1.5 .", "e", "  1.5-"), ("set g1 to -5 .", "g", "-5 "),
                ("set c ( 2 ) to 1.5 .", "c ( 2 ) c ( 1 )", "1.50"), ("set c ( 2 ) to 1.5 .", "t", "0015"), ("set v to 0.5 .", "v", "0.5"),
                ("set m to 7 .", "m m '-' 1 2.5 w 'z'", "77-12.5   z")]:
            self.check_run(build(data, f"{before} show {sources} ."), {}, shown=(line,))
        self.check_run(build(data, "show 'a' . show 'b' 'c' . show 1 ."), {}, shown=("a", "bc", "1"))
        self.check_run(build(data, "show 'a' c ( m ) 'b' ."), {}, shown=(), end="index")


class TestSort(RunCase):
    def check_sort(self, data, fill, sort, name, text):
        self.check_run(build(data, f"{fill} {sort} ."), {name: text})

    def test_613_fields(self):
        data = "01 t . 05 a picture x . 05 c picture s9 occurs 5 . 05 b picture x ."
        fill = " ".join(f"set c ( {at + 1} ) to {value} ." for at, value in enumerate([3, -2, 0, -9, 3]))
        self.check_sort(data, fill, "sort c by c", "t", " -9-2+0+3+3 ")
        self.check_sort(data, fill, "sort c by c descending", "t", " +3+3+0-2-9 ")

    def test_613_text_and_edited_fields(self):
        data = "01 t . 05 w picture x(2) occurs 4 . 05 e picture z9- occurs 3 ."
        fill = "move 'b' to w ( 1 ) . move 'ab' to w ( 2 ) . move 'B' to w ( 3 ) . set e ( 1 ) to 5 . set e ( 2 ) to -10 . set e ( 3 ) to -5 ."
        self.check_sort(data, fill, "sort w by w", "t", "  B abb  5 10- 5-")
        self.check_sort(data, fill, "sort w by w descending", "t", "b abB    5 10- 5-")
        self.check_sort(data, fill, "sort e by e", "e", "10- 5- 5 ")
        self.check_sort(data, fill, "sort e by e descending", "e", " 5  5-10-")

    def test_613_groups_keep_the_order_of_equal_keys(self):
        data = "01 t . 05 r occurs 4 . 10 w picture x . 10 inner . 15 k picture 99 . 15 v picture x . 10 m picture z9 ."
        fill = " ".join(f"move '{word}' to w ( {at} ) . set k ( {at} ) to {key} . move '{at}' to v ( {at} ) . set m ( {at} ) to {20 - key} ."
                        for at, (word, key) in enumerate([("a", 7), ("b", 10), ("a", 7), ("B", 0)], start=1))
        one, two, three, four = "a07113", "b10210", "a07313", "B00420"
        for key, up, down in [("k", [four, one, three, two], [two, one, three, four]), ("w", [four, one, three, two], [two, one, three, four]),
                              ("m", [two, one, three, four], [four, one, three, two]), ("v", [one, two, three, four], [four, three, two, one])]:
            self.check_sort(data, fill, f"sort r by {key}", "t", "".join(up))
            self.check_sort(data, fill, f"sort r by {key} descending", "t", "".join(down))

    def test_613_within_groups(self):
        data = "01 a picture x . 01 t . 05 h picture x . 05 g . 10 f picture x . 10 c picture 9 occurs 3 . 10 l picture 9 . 05 z picture 9 ."
        fill = "move 'h' to h . move 'f' to f . set c ( 1 ) to 2 . set c ( 2 ) to 3 . set c ( 3 ) to 1 ."
        self.check_sort(data, fill, "sort c by c", "t", "hf12300")
        self.check_sort(data, "", "sort c by c descending", "t", "  00000")

    def test_613_rows_with_tables(self):
        data = "01 t . 05 r occurs 2 . 10 d picture 9 occurs 2 . 10 k picture 9 ."
        fill = "set d ( 1 , 2 ) to 5 . set k ( 1 ) to 3 . set d ( 2 , 1 ) to 7 . set k ( 2 ) to 2 ."
        self.check_sort(data, fill, "sort r by k", "t", "702053")

    def test_613_one_occurrence(self):
        self.check_sort("01 t . 05 c picture 9 occurs 1 .", "set c ( 1 ) to 5 .", "sort c by c", "t", "5")


class TestClearAndStop(RunCase):
    DATA = """01 t . 05 n picture s9v9 value -1.5 . 05 r occurs 2 . 10 w picture x(2) value 'q' . 10 d picture 9 occurs 2 value 7 . 10 e picture z9 .
              01 k picture 9 value 1 . 01 v picture x(3) ."""
    ROW = "q 77 0"

    def test_614_first_texts(self):
        self.check_run(build(self.DATA, ""), {"t": "-15" + self.ROW * 2, "k": "1", "v": "   "})

    def test_614_clear(self):
        change = """set n to 2 . move 'ab' to w ( 1 ) . move 'cd' to w ( 2 ) . set d ( 1 , 2 ) to 1 . set d ( 2 , 1 ) to 2 . set e ( 1 ) to 3 . set e ( 2 ) to 4 .
                    move 'xyz' to v ."""
        one, two = "ab71 3", "cd27 4"
        for reference, text in [("n", "-15" + one + two), ("w ( 1 )", "+20q 71 3" + two), ("w ( k + 1 )", "+20" + one + "q 27 4"), ("d ( 1 , 2 )", "+20ab77 3" + two),
                                ("d ( k + 1 , k )", "+20" + one + "cd77 4"), ("e ( 2 )", "+20" + one + "cd27 0"), ("r ( 1 )", "+20" + self.ROW + two),
                                ("r ( 2 )", "+20" + one + self.ROW), ("t", "-15" + self.ROW * 2), ("v", "+20" + one + two)]:
            self.check_run(build(self.DATA, f"{change} clear {reference} ."), {"t": text, "v": "   " if reference == "v" else "xyz"})
        self.check_run(build(self.DATA, "clear r ( k + 2 ) ."), {}, end="index", left=999)
        self.check_run(build(self.DATA, "set k to 0 . clear w ( k ) ."), {}, end="index", left=998)

    def test_614_stop(self):
        self.check_run(build(self.DATA, "perform a 3 times . a . set k to k + 1 . if k = 3 then stop . end ."), {"k": "3"}, end="stop")

    def test_part_of(self):
        program = build(self.DATA, "")
        self.assertEqual(part_of(program, run_plain(program, {}, 1), "r"), self.ROW * 2)


if __name__ == "__main__":
    unittest.main()
