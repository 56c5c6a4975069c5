import unittest

from cardwright.names import Scope
from cardwright.parsing import parse
from cardwright.rules import check_statement
from cardwright.sentences import read_statement
from cardwright.tokens import Cursor
from support import part_fault

SCOPE = Scope(parse("""program p . data .
01 row . 05 code picture x(3) . 05 line occurs 3 . 10 cell picture 9 occurs 2 . 10 word picture x . 10 mask picture zz9 .
  10 part . 15 low picture s9v99 .
01 i picture 99 . 01 signed picture s9 . 01 tenth picture 9v9 . 01 edit picture z9 . 01 name picture x .
01 tab . 05 entry picture 9 occurs 4 . 05 texts-in picture x occurs 2 . 05 edits picture z9.9 occurs 2 . 05 j picture 9(18) .
01 most picture v9(18) . 01 seven picture v9(7) .
01 twin . 02 one picture 9 . 02 two picture x occurs 2 .
01 twin-too . 05 three picture 9 . 05 four picture x . 05 five picture x .
01 near . 05 six picture s9 . 05 seven-too picture x . 05 eight picture x .
01 short . 05 nine picture 9 . 05 ten picture x .
01 outer-tab . 05 box occurs 2 . 10 inner-box . 15 key-of picture x(2) . 15 rows occurs 2 . 20 leaf picture 9 .
files . input in-file record row . output out-file record tab .
procedure . main . second . third . fourth ."""))


class RuleCase(unittest.TestCase):
    def check(self, fault, *texts):
        for text in texts:
            self.assertEqual(part_fault(check_statement, SCOPE, read_statement(Cursor(text), depth=1)), fault, text)


class TestMove(RuleCase):
    def test_509_right(self):
        self.check(None, "move 'a' to code .", "move 5 to i .", "move -5.25 to i .", "move 5 to edit .", "move code to name .", "move edit to code .",
                   "move row to code .", "move i to code .", "move j to word ( 1 ) .", "move i to signed .", "move edit to tenth .", "move tenth to edit .",
                   "move twin to twin-too .", "move twin-too to twin .", "move row to row .", "move line ( 1 ) to line ( i ) .", "move signed to code .",
                   "move cell ( 1 , 2 ) to entry ( i + 4 ) .", "move mask ( 1 ) to edit .", "move part ( 1 ) to part ( 2 ) .")

    def test_509_impossible(self):
        for source, target in [("'5'", "i"), ("'5'", "edit"), ("'a'", "row"), ("5", "code"), ("5", "row"), ("-0.5", "name"), ("code", "i"), ("code", "edit"),
                               ("name", "row"), ("tenth", "code"), ("low ( 1 )", "name"), ("i", "row"), ("edit", "twin"), ("row", "i"), ("row", "edit"),
                               ("row", "tab"), ("twin", "near"), ("near", "twin"), ("twin", "short"), ("short", "twin")]:
            self.check(("move", target), f"move {source} to {target} .")
        self.check(("move", "line"), "move row to line ( 1 ) .")
        self.check(("move", "cell"), "move code to cell ( 1 , i ) .")

    def test_509_order(self):
        self.check(("unknown", "nothing"), "move nothing to signed .", "move nothing to line .", "move code to nothing .", "move 'a' to nothing .",
                   "move 5 to nothing .", "move word ( nothing ) to nobody .")
        self.check(("subscripts", "line"), "move line to nothing .", "move 5 to line .", "move code to line .")
        self.check(("range", "line"), "move line ( 4 ) to nothing .", "move 'a' to line ( 4 ) .")
        self.check(("unknown", "main"), "move main to code .", "move code to main .")
        self.check(("unknown", "in-file"), "move in-file to code .")


class TestSetAndDivide(RuleCase):
    LONG = "most * most * most * seven"

    def test_509_set(self):
        self.check(None, "set i to 5 .", "set edit rounded to i * tenth .", "set mask ( i ) to low ( 1 ) .", "set i to i else stop . end .")
        for name in ["row", "code", "name", "tab"]:
            self.check(("target", name), f"set {name} to 5 .", f"set {name} rounded to nothing .", f"set {name} to {self.LONG} .")
        self.check(("unknown", "nothing"), "set nothing to code .", "set i to nothing .", "set edit to i + nothing else set code to 1 . end .")
        self.check(("number", "edit"), "set i to edit .")
        self.check(("scale", ""), f"set i to {self.LONG} .")
        self.check(("target", "word"), "set word ( 1 ) to 5 .")
        self.check(("subscripts", "word"), "set word to nothing .")

    def test_509_divide(self):
        self.check(None, "divide i by 2 giving edit .", "divide 1 by 3 giving i rounded remainder mask ( 1 ) else stop . end .",
                   "divide i by 2 giving i remainder i .", "divide most * most by 0.5 giving tenth .")
        self.check(("number", "code"), "divide code by nothing giving nobody .", "divide 5 by code giving nothing remainder nobody .")
        self.check(("unknown", "nothing"), "divide nothing by code giving code .", "divide 5 by nothing giving code .", "divide 5 by 5 giving nothing .",
                   "divide 5 by 5 giving nothing remainder code .", "divide 5 by 5 giving i remainder nothing .")
        self.check(("target", "code"), "divide 5 by 5 giving code .", "divide 5 by 5 giving code remainder nothing .",
                   "divide 5 by 5 giving i remainder code .", "divide 5 by 5 giving i rounded remainder code else move nothing to i . end .")
        self.check(("scale", ""), f"divide {self.LONG} by code giving code .", f"divide 1 by {self.LONG} giving code .")


class TestOthers(RuleCase):
    def test_509_if(self):
        self.check(None, "if i = 1 then stop . end .", "if digits row or text code = 'a' then stop . else stop . end .")
        self.check(("number", "code"), "if code = 1 then set name to 1 . end .")
        self.check(("text", ""), "if text 5 = code then stop . end .")

    def test_509_read_and_write(self):
        self.check(None, "read in-file end .", "read in-file at end stop . bad stop . end .", "write out-file .")
        self.check(("file", "out-file"), "read out-file end .", "read out-file at end clear nothing . end .")
        self.check(("file", "in-file"), "write in-file .")
        for name in ["row", "main", "nothing", "p"]:
            self.check(("unknown", name), f"read {name} end .", f"write {name} .", f"read {name} bad clear nobody . end .")

    def test_509_show(self):
        self.check(None, "show 5 'a' code row i edit line ( 1 ) cell ( 1 , i ) .", "show 'a' .")
        self.check(("unknown", "nothing"), "show nothing .", "show 5 'a' code nothing line .")
        self.check(("subscripts", "line"), "show 5 line nothing .")
        self.check(("range", "line"), "show line ( 4 ) line .")

    def test_509_clear_and_stop(self):
        self.check(None, "clear row .", "clear i .", "clear edit .", "clear name .", "clear line ( 3 ) .", "clear cell ( i , 2 ) .", "stop .")
        self.check(("unknown", "nothing"), "clear nothing .")
        self.check(("subscripts", "row"), "clear row ( 1 ) .")
        self.check(("subscript", "tenth"), "clear line ( tenth ) .")

    def test_509_sort(self):
        self.check(None, "sort entry by entry .", "sort texts-in by texts-in descending .", "sort edits by edits .", "sort line by word .",
                   "sort line by mask descending .", "sort line by low .", "sort box by key-of .")
        for table in ["nothing", "main", "in-file"]:
            self.check(("unknown", table), f"sort {table} by nobody .")
        for table in ["row", "i", "code", "cell", "rows", "tab", "word", "part", "leaf", "inner-box"]:
            self.check(("table", table), f"sort {table} by nothing .", f"sort {table} by {table} .")
        for key in ["nothing", "main", "out-file"]:
            self.check(("unknown", key), f"sort line by {key} .")
        for key in ["line", "part", "cell", "row", "code", "i", "entry", "key-of", "tab"]:
            self.check(("key", key), f"sort line by {key} .", f"sort line by {key} descending .")
        for key in ["box", "inner-box", "rows", "leaf"]:
            self.check(("key", key), f"sort box by {key} .")
        self.check(("key", "texts-in"), "sort entry by texts-in .")


class TestPerform(RuleCase):
    def test_510_right(self):
        self.check(None, "perform second .", "perform second thru second .", "perform second thru fourth .", "perform third 5 times .",
                   "perform third i times .", "perform third tenth times .", "perform third entry ( 1 ) times .", "perform third until i = 1 .",
                   "perform third thru fourth varying i from 1 by -1 until i < 1 .", "perform third varying signed from tenth by most until i = 1 .")

    def test_510_names(self):
        for name in ["nothing", "row", "i", "in-file", "p"]:
            self.check(("unknown", name), f"perform {name} .", f"perform {name} thru nobody .", f"perform second thru {name} .",
                       f"perform {name} code times .", f"perform main thru {name} until code = 1 .")

    def test_510_order_and_main(self):
        self.check(("order", "second"), "perform third thru second .", "perform fourth thru second code times .")
        self.check(("order", "main"), "perform second thru main .")
        self.check(("main", "main"), "perform main .", "perform main thru main .", "perform main thru fourth .", "perform main code times .",
                   "perform main until nothing = 1 .")

    def test_510_ways(self):
        for name in ["code", "row", "edit"]:
            self.check(("number", name), f"perform third {name} times .", f"perform third varying {name} from nothing by 1 until i = 1 .")
        self.check(("unknown", "nothing"), "perform third nothing times .", "perform third until nothing = code .",
                   "perform third varying nothing from code by code until code = 1 .", "perform third varying i from nothing by code until code = 1 .",
                   "perform third varying i from 1 by nothing until code = 1 .", "perform third varying i from 1 by 1 until nothing = 1 .")
        self.check(("number", "code"), "perform third varying i from code by nothing until nobody = 1 .", "perform third until code = nothing .",
                   "perform third varying i from 1 by code until nobody = 1 .", "perform third varying i from 1 by 1 until i = 1 and i = code .")
        self.check(("subscripts", "entry"), "perform third entry times .", "perform third varying entry from 1 by 1 until i = 1 .")
        self.check(("scale", ""), "perform third varying i from most * most * most * seven by code until i = 1 .")


class TestInner(RuleCase):
    def test_508_returns_none(self):
        for text in ["stop .", "move 'a' to code .", "if i = 1 then stop . end ."]:
            self.assertIsNone(check_statement(SCOPE, read_statement(Cursor(text), depth=1)))

    def test_508_inner_statements_come_last(self):
        self.check(("unknown", "nothing"), "set i to nothing else clear nobody . end .", "divide i by i giving i remainder nothing else clear nobody . end .",
                   "if digits nothing then clear nobody . else clear nobody . end .", "read nothing at end clear nobody . bad clear nobody . end .")
        self.check(("target", "code"), "set code to 1 else clear nobody . end .", "divide 1 by 1 giving code else clear nobody . end .")

    def test_508_in_their_order(self):
        for text in ["set i to 1 else clear row . clear nothing . clear nobody . end .", "divide 1 by 1 giving i else clear nothing . clear nobody . end .",
                     "if i = 1 then clear nothing . clear nobody . else clear nobody . end .", "if i = 1 then stop . else clear nothing . clear nobody . end .",
                     "read in-file at end clear nothing . bad clear nobody . end .", "read in-file at end stop . bad stop . clear nothing . end .",
                     "if i = 1 then if i = 1 then stop . else clear nothing . end . clear nobody . end .",
                     "if i = 1 then read in-file bad set i to 1 else clear nothing . end . end . clear nobody . end ."]:
            self.check(("unknown", "nothing"), text)

    def test_508_deep(self):
        for inner, fault in [("stop .", None), ("clear nothing .", ("unknown", "nothing")), ("perform main .", ("main", "main"))]:
            self.check(fault, "if i = 1 then " * 7 + inner + " end ." * 7, "read in-file bad " * 7 + inner + " end ." * 7,
                       "set i to 1 else " * 7 + inner + " end ." * 7)


if __name__ == "__main__":
    unittest.main()
