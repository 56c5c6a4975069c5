import unittest

from cardwright.sentences import read_statement
from cardwright.tokens import Cursor
from support import ReadCase

A, B, C = [("ref", (name, ())) for name in "abc"]
EQUAL = ("compare", "=", A, ("number", (1, 0)))
STOP = ("stop",)
CLEAR = ("clear", ("x", ()))


def number(units, scale=0):
    return ("number", (units, scale))


def ref(name, *subscripts):
    return (name, subscripts)


def read_first(cursor):
    return read_statement(cursor, depth=1)


class StatementCase(ReadCase):
    read = read_first

    def check_trees(self, *rows):
        for text, tree in rows:
            self.check_tree(text, tree)
            self.check_tree(text, tree, "stop .")
            self.check_tree(text, tree, "main .")

    def check_word_faults(self, ahead, words):
        for word in words.split():
            self.check_read_fault(ahead + " " + word, "word")


class TestPlainStatements(StatementCase):
    def test_403_move(self):
        self.check_trees(
            ("move a to b .", ("move", A, ref("b"))), ("move 'it''s' to b .", ("move", ("text", "it's"), ref("b"))),
            ("move -5.0 to b ( i + 1 , 2 ) .", ("move", number(-5), ref("b", ("i", 1), ("", 2)))),
            ("move a ( 3 ) to b .", ("move", ("ref", ref("a", ("", 3))), ref("b"))),
        )
        self.check_word_faults("move", ". to - ( A [ + end")
        self.check_word_faults("move a", ". b 5 'b' + thru a")
        self.check_word_faults("move a to", ". 5 'b' -5 to - (")
        self.check_word_faults("move a to b", "b 5 'b' to stop .. rounded else end")
        self.check_read_fault("move ''", "value")
        self.check_read_fault("move 5x", "value")

    def test_403_write_clear_stop(self):
        self.check_trees(("write f .", ("write", "f")), ("clear a .", ("clear", ref("a"))), ("stop .", STOP),
                         ("clear a ( 1 , i - 50 ) .", ("clear", ref("a", ("", 1), ("i", -50)))))
        self.check_word_faults("write", ". 5 'f' write F")
        self.check_word_faults("write f", "f 5 'f' ( stop")
        self.check_word_faults("clear", ". 5 'f' clear ( -5")
        self.check_word_faults("clear a", "a 5 'f' , stop")
        self.check_word_faults("stop", "stop a 5 'f' .. end")

    def test_403_show(self):
        self.check_trees(
            ("show a .", ("show", (A,))), ("show 5 .", ("show", (number(5),))), ("show 'a' .", ("show", (("text", "a"),))),
            ("show a 5 'b' -2.50 a ( 1 ) 'c' .",
             ("show", (A, number(5), ("text", "b"), number(-25, 1), ("ref", ref("a", ("", 1))), ("text", "c")))),
        )
        self.check_word_faults("show", ". - ( end to A , [")
        self.check_word_faults("show a", "- end to A , [ stop")
        self.check_word_faults("show 5", "( + end")
        self.check_word_faults("show 'a'", "( + end")
        for word in ["''", "'" + "b" * 81 + "'", "07", "-a", "1" * 19]:
            self.check_read_fault("show " + word, "value")
            self.check_read_fault("show a 'b' 3 " + word, "value")

    def test_403_sort(self):
        self.check_trees(("sort a by b .", ("sort", "a", "b", False)), ("sort a by a descending .", ("sort", "a", "a", True)))
        self.check_word_faults("sort", ". 5 'a' by (")
        self.check_word_faults("sort a", ". 5 'a' b ( descending to")
        self.check_word_faults("sort a by", ". 5 'a' by ( descending")
        self.check_word_faults("sort a by b", "5 'a' b ( ascending to")
        self.check_word_faults("sort a by b descending", "5 'a' b descending")

    def test_403_perform(self):
        self.check_trees(
            ("perform p .", ("perform", "p", "p", ("once",))), ("perform p thru q .", ("perform", "p", "q", ("once",))),
            ("perform p thru p .", ("perform", "p", "p", ("once",))),
            ("perform p 5 times .", ("perform", "p", "p", ("times", number(5)))),
            ("perform p thru q a times .", ("perform", "p", "q", ("times", A))),
            ("perform p a ( i ) times .", ("perform", "p", "p", ("times", ("ref", ref("a", ("i", 0)))))),
            ("perform p until a = 1 .", ("perform", "p", "p", ("until", EQUAL))),
            ("perform p thru q until not a = 1 .", ("perform", "p", "q", ("until", ("not", EQUAL)))),
            ("perform p varying a from b by - c until a = 1 .",
             ("perform", "p", "p", ("varying", ref("a"), B, ("negative", C), EQUAL))),
            ("perform p thru q varying a ( 2 ) from b + 1 by 0.5 until a = 1 and a = 1 .",
             ("perform", "p", "q", ("varying", ref("a", ("", 2)), ("plus", B, number(1)), number(5, 1), ("and", EQUAL, EQUAL)))),
            ("perform p until b ( 2 , i - 1 ) > 3 .",
             ("perform", "p", "p", ("until", ("compare", ">", ("ref", ref("b", ("", 2), ("i", -1))), number(3))))),
        )

    def test_404_times(self):
        for word in ["0", "1", "51", "999999999999999999"]:
            self.check_trees((f"perform p {word} times .", ("perform", "p", "p", ("times", number(int(word))))))
        for word in ["00", "01", "007", "1" * 19, "0" * 19, "1" * 5000]:
            self.check_read_fault("perform p " + word, "value")
            self.check_read_fault("perform p thru q " + word, "value")
        for word in ["-5", "5.0", "5x", "-0", "'5'", "''", "-", "times", "(", "["]:
            self.check_read_fault("perform p " + word, "word")

    def test_405_perform(self):
        self.check_word_faults("perform", ". 5 'p' perform thru (")
        self.check_word_faults("perform p", "to by from then else A")
        self.check_word_faults("perform p thru", ". 5 'p' thru until")
        self.check_word_faults("perform p thru q", "thru to A - 'q'")
        self.check_word_faults("perform p 5", ". 5 time until 'times' + (")
        self.check_word_faults("perform p a", ". 5 time until 'times' + a")
        self.check_word_faults("perform p 5 times", "5 times until a")
        self.check_word_faults("perform p until", ". times then until ]")
        self.check_word_faults("perform p until a = b", "then times a else 5 = ]")
        self.check_word_faults("perform p varying", ". 5 ( from 'a'")
        self.check_word_faults("perform p varying a", ". 5 by a until +")
        self.check_word_faults("perform p varying a from", ". from by 'a' [")
        self.check_word_faults("perform p varying a from b", ". from until a 5 -5")
        self.check_word_faults("perform p varying a from b by", ". by until 'a'")
        self.check_word_faults("perform p varying a from b by c", ". by from 5 times")
        self.check_word_faults("perform p varying a from b by c until", ". by then 'a'")
        self.check_word_faults("perform p varying a from b by c until digits d", "by then a 5")

    def test_405_first_words(self):
        for word in "main . 5 'move' else end bad at until then data A Move moves '' rounded descending times".split():
            self.check_read_fault(word, "word")
        self.check_no_tokens()


class TestNestingStatements(StatementCase):
    def test_403_set(self):
        self.check_trees(
            ("set a to b .", ("set", ref("a"), False, B, ())), ("set a rounded to b .", ("set", ref("a"), True, B, ())),
            ("set a ( 1 ) rounded to b * c .", ("set", ref("a", ("", 1)), True, ("times", B, C), ())),
            ("set a to 5 else stop . end .", ("set", ref("a"), False, number(5), (STOP,))),
            ("set a rounded to 5 else clear x . stop . clear x . end .", ("set", ref("a"), True, number(5), (CLEAR, STOP, CLEAR))),
        )
        self.check_word_faults("set", ". 5 'a' to rounded (")
        self.check_word_faults("set a", ". 5 'a' b = round")
        self.check_word_faults("set a rounded", ". rounded b 5")
        self.check_word_faults("set a to", ". 'b' rounded else not")
        self.check_word_faults("set a to b", "a 5 -5 end rounded stop =")
        self.check_word_faults("set a to b else", "end . else a 5 'a'")
        self.check_word_faults("set a to b else stop .", ". else a 5 then bad")
        self.check_word_faults("set a to b else stop . end", "end else a stop 5")

    def test_403_divide(self):
        for rounded in [False, True]:
            for remainder in [None, ref("r"), ref("r", ("i", 2))]:
                for otherwise in [(), (STOP,), (CLEAR, STOP)]:
                    text = "divide a + 1 by - b giving c ( 2 )" + " rounded" * rounded
                    text += {None: "", ref("r"): " remainder r", ref("r", ("i", 2)): " remainder r ( i + 2 )"}[remainder]
                    text += {(): "", (STOP,): " else stop . end", (CLEAR, STOP): " else clear x . stop . end"}[otherwise]
                    self.check_trees((text + " .", ("divide", ("plus", A, number(1)), ("negative", B), ref("c", ("", 2)), rounded,
                                                    remainder, otherwise)))
        self.check_word_faults("divide", ". by 'a' giving [")
        self.check_word_faults("divide a", ". to b 5 giving")
        self.check_word_faults("divide a by", ". by 'a' giving")
        self.check_word_faults("divide a by b", ". to c 5 by else")
        self.check_word_faults("divide a by b giving", ". 5 'c' giving rounded ( -")
        self.check_word_faults("divide a by b giving c", "a 5 to end + stop")
        self.check_word_faults("divide a by b giving c rounded", "a 5 rounded end")
        self.check_word_faults("divide a by b giving c rounded remainder", ". 5 'a' else remainder")
        self.check_word_faults("divide a by b giving c remainder r", "a 5 rounded remainder end")
        self.check_word_faults("divide a by b giving c else", ". end remainder a")
        self.check_word_faults("divide a by b giving c else stop . end", "end stop else")

    def test_403_if(self):
        self.check_trees(
            ("if a = 1 then stop . end .", ("if", EQUAL, (STOP,), ())),
            ("if not a = 1 then stop . else clear x . end .", ("if", ("not", EQUAL), (STOP,), (CLEAR,))),
            ("if a = 1 then clear x . stop . else stop . clear x . end .", ("if", EQUAL, (CLEAR, STOP), (STOP, CLEAR))),
            ("if a = 1 then if a = 1 then stop . end . else stop . end .", ("if", EQUAL, (("if", EQUAL, (STOP,), ()),), (STOP,))),
            ("if a = 1 then if a = 1 then stop . else stop . end . end .", ("if", EQUAL, (("if", EQUAL, (STOP,), (STOP,)),), ())),
            ("if a = 1 then set a to b else stop . end . else stop . end .",
             ("if", EQUAL, (("set", ref("a"), False, B, (STOP,)),), (STOP,))),
        )
        self.check_word_faults("if", ". then 'a' if ]")
        self.check_word_faults("if a = b", ". a 5 else stop end ]")
        self.check_word_faults("if a = b then", ". end else then a 5 'a'")
        self.check_word_faults("if a = b then stop .", ". then a 5 bad at")
        self.check_word_faults("if a = b then stop . else", ". end else a")
        self.check_word_faults("if a = b then stop . else stop .", ". else then a")
        self.check_word_faults("if a = b then stop . end", "end stop else a")

    def test_403_read(self):
        self.check_trees(
            ("read f end .", ("read", "f", (), ())), ("read f at end stop . end .", ("read", "f", (STOP,), ())),
            ("read f bad stop . end .", ("read", "f", (), (STOP,))),
            ("read f at end stop . clear x . bad clear x . stop . end .", ("read", "f", (STOP, CLEAR), (CLEAR, STOP))),
            ("read f at end read g end . bad read g bad stop . end . end .",
             ("read", "f", (("read", "g", (), ()),), (("read", "g", (), (STOP,)),))),
        )
        self.check_word_faults("read", ". 5 'f' end at read")
        self.check_word_faults("read f", ". f 5 else stop then 'end'")
        self.check_word_faults("read f at", ". at bad stop 5")
        self.check_word_faults("read f at end", ". end bad at a")
        self.check_word_faults("read f at end stop .", ". at else a")
        self.check_word_faults("read f bad", ". end bad at a")
        self.check_word_faults("read f bad stop .", ". at bad else a")
        self.check_word_faults("read f at end stop . bad", ". at bad end")
        self.check_word_faults("read f end", "stop end at")

    def test_405_the_end(self):
        for text in """move|move a|move a to|move a to b|set|set a|set a rounded|set a to|set a to b|set a to b else|set a to b else stop
            set a to b else stop .|set a to b else stop . end|divide|divide a|divide a by|divide a by b|divide a by b giving
            divide a by b giving c|divide a by b giving c rounded|divide a by b giving c remainder|divide a by b giving c remainder d
            divide a by b giving c else|divide a by b giving c else stop . end|if|if a|if a = b|if a = b then|if a = b then stop .
            if a = b then stop . else|if a = b then stop . else stop .|if a = b then stop . end|perform|perform p|perform p thru
            perform p thru q|perform p 5|perform p 5 times|perform p a|perform p a times|perform p until|perform p until digits a
            perform p varying|perform p varying a|perform p varying a from|perform p varying a from b|perform p varying a from b by
            perform p varying a from b by c|perform p varying a from b by c until|read|read f|read f at|read f at end|read f bad
            read f at end stop .|read f bad stop .|read f end|write|write f|show|show a|show 5 'a'|sort|sort a|sort a by|sort a by b
            sort a by b descending|clear|clear a|stop""".replace("\n", "|").split("|"):
            self.check_read_fault(text.strip(), "end")


class TestDepth(StatementCase):
    HEADS = ["if a = 1 then", "set a to b else", "divide a by b giving c else", "read f at end", "read f bad",
             "if a = 1 then stop . else", "read f at end stop . bad"]

    def test_406_levels(self):
        for head in self.HEADS:
            text = f"{head} " * 7 + "stop ." + " end ." * 7
            tree = read_first(Cursor(text))
            for level in range(2, 9):
                tree = [part for part in tree[2:] if part and isinstance(part, tuple) and isinstance(part[0], tuple)][-1][0]
            self.assertEqual(tree, STOP)
            for last in "move set divide if perform read write show sort clear stop".split():
                self.check_read_fault(f"{head} " * 7 + "read f bad " + last, "depth")
            for last in [".", "5", "a", "end", "'a'"]:
                self.check_read_fault(f"{head} " * 7 + "read f bad " + last, "word")
            self.check_read_fault(f"{head} " * 7 + "read f bad", "end")

    def test_406_mixed_levels(self):
        row = " ".join(self.HEADS)
        self.check_read_fault(row + " if a = 1 then stop", "depth")
        self.check_read_fault(row + " stop . if a = 1 then stop", "depth")
        # What is closed counts no more.
        closed = "if a = 1 then " * 7 + "stop ." + " end ." * 6
        self.check_read_fault(closed + " if a = 1 then if a = 1 then" + " if a = 1 then" * 5 + " stop", "depth")
        tree = read_first(Cursor(closed + " stop . else stop . end ."))
        self.assertEqual((len(tree[2]), tree[3]), (2, (STOP,)))

    def test_406_the_level_is_given(self):
        for depth in range(1, 9):
            self.assertEqual(read_statement(Cursor("stop ."), depth=depth), STOP)
            text = "if a = 1 then " * (8 - depth) + "stop ." + " end ." * (8 - depth)
            read_statement(Cursor(text), depth=depth)
            self.check_fault(1, "depth", read_statement, Cursor("if a = 1 then " + text + " end ."), depth=depth)
        for word in "move set divide if perform read write show sort clear stop".split():
            self.check_fault(2, "depth", read_statement, Cursor("\n" + word + "\n5"), depth=9)
            self.check_fault(2, "depth", read_statement, Cursor("\n" + word), depth=9)
        self.check_fault(1, "word", read_statement, Cursor("a ."), depth=9)
        self.check_fault(1, "end", read_statement, Cursor(""), depth=9)

    def test_406_expressions_in_statements(self):
        row = "a + " * 19 + "a"
        for text in ["set a to", "divide", "divide a by", "perform p varying a from", "perform p varying a from b by", "if", "if a =",
                     "perform p until", "if text 'a' = 'b' and b ="]:
            self.check_read_fault(f"{text} {row} + a", "depth")
            self.check_read_fault(f"{text} " + "( " * 20 + "-", "depth")
        for text in ["if", "perform p until", "perform p varying a from b by c until"]:
            self.check_read_fault(f"{text} " + "[ " * 20 + "not", "depth")
            self.check_read_fault(f"{text} " + "digits a or " * 20 + "digits a", "depth")


if __name__ == "__main__":
    unittest.main()
