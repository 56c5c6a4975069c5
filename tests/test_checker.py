import unittest

from cardwright.checker import check
from cardwright.parsing import parse
from cardwright.tokens import quoted, tokens
from cardwright.words import is_name

RIGHT = """program p . data . 01 row . 05 code picture x(3) . 05 line occurs 3 . 10 cell picture 9 occurs 2 . 01 i picture 99 .
files . input in-file record row . output out-file record row .
procedure . main . perform second . perform third thru fourth until i > 5 . second . if i = 1 then perform third . end .
third . move code to code . set i to i + cell ( 1 , i ) . fourth . read in-file end . write out-file ."""

# Each row spoils the right program in one place; the faults stand in the order of the points.
SPOILT = [
    ("05 code picture x(3)", "05 code picture x(3) value 'abcd'", ("value", "code")),
    ("05 code picture x(3)", "05 code", ("group", "code")),
    ("05 line", "04 line", ("level", "line")),
    ("01 i", "01 row", ("name", "row")),
    ("input in-file", "input code", ("name", "code")),
    ("in-file record row", "in-file record line", ("record", "line")),
    ("output out-file", "output in-file", ("name", "in-file")),
    ("second . if", "third . if", ("name", "third")),
    ("fourth . read", "in-file . read", ("name", "in-file")),
    ("perform third thru fourth", "perform fourth thru third", ("order", "third")),
    ("i > 5", "j > 5", ("unknown", "j")),
    ("i = 1", "code = 1", ("number", "code")),
    ("move code to code", "move row to i", ("move", "i")),
    ("set i to i", "set line ( 1 ) to i", ("target", "line")),
    ("cell ( 1 , i )", "cell ( 4 , i )", ("range", "cell")),
    ("read in-file", "read out-file", ("file", "out-file")),
    ("write out-file", "write main", ("unknown", "main")),
]


def other_name(name):
    return ("q" + name)[:19] + "z"


def renamed(text):
    """Return the text with other names; `x` and the like are pictures behind `picture`."""
    words = []
    for _, kind, word in tokens(text):
        if kind == "word" and is_name(word) and words[-1] != "picture":
            word = other_name(word)
        words.append(quoted(word) if kind == "string" else word)
    return " ".join(words)


def chain(many):
    """Return a program in which paragraphs perform each other one after another, so many performs deep."""
    names = [f"q{at}" for at in range(many + 1)]
    paragraphs = [f"{name} . perform {other} ." for name, other in zip(names, names[1:])] + [names[-1] + " ."]
    return parse("program p . data . files . procedure . " + " ".join(paragraphs))


class TestCheck(unittest.TestCase):
    def check(self, fault, text):
        self.assertEqual(check(parse(text)), fault, text)
        if fault is not None:
            fault = (fault[0], other_name(fault[1]) if fault[1] else "")
        self.assertEqual(check(parse(renamed(text))), fault, text)

    def test_500_right(self):
        self.check(None, RIGHT)
        self.check(None, "program main . data . files . procedure . main .")
        self.check(None, "program p . data . 01 p picture 9 . files . procedure . main . set p to 3 .")

    def test_500_each_fault(self):
        for old, new, fault in SPOILT:
            self.assertEqual(RIGHT.count(old), 1, old)
            self.check(fault, RIGHT.replace(old, new))

    def test_500_the_first_fault(self):
        for at, (old, new, fault) in enumerate(SPOILT):
            for later, worse, _ in SPOILT[at + 1:]:
                text = RIGHT.replace(old, new)
                if text.count(later) == 1 and later not in new:
                    self.check(fault, text.replace(later, worse))

    def test_500_order(self):
        data = "program p . data . 01 a picture 99 . "
        # What is wrong in the performs comes behind every wrong statement, also of later paragraphs.
        self.check(("unknown", "b"), data + "files . procedure . main . perform loop . loop . perform loop . last . set b to 1 .")
        self.check(("circle", "loop"), data + "files . procedure . main . perform loop . loop . perform loop . last . set a to 1 .")
        self.check(("name", "main"), data + "files . procedure . main . perform loop . loop . perform loop . set b to 1 . main .")
        self.check(("record", "b"), data + "files . input f record b . procedure . main . perform loop . loop . perform loop . main .")
        self.check(("level", "b"), "program p . data . 02 b picture 9 . files . input f record b . procedure . main .")
        self.check(("size", ""), "program p . data . 01 a . " + " ".join(f"02 b{at} picture x(80) occurs 50 ." for at in range(2)) +
                   " files . input f record b . procedure . main . stop .")
        self.check(("scale", ""), """program p . data . 01 a picture v9(18) . files . procedure . main .
                   if a * a * a * a > 1 then set b to 1 . end . perform main .""")

    def test_500_kinds(self):
        fault = check(parse("program p . data . files . procedure . main . set b to 1 ."))
        self.assertIsInstance(fault, tuple)
        self.assertEqual(fault, ("unknown", "b"))

    def test_511_circle(self):
        head = "program p . data . files . procedure . main . "
        self.check(("circle", "b"), head + "perform b . b . perform b .")
        self.check(("circle", "b"), head + "b . perform c . c . perform b .")
        self.check(("circle", "c"), head + "perform b . b . perform c . c . perform d . d . perform c .")
        self.check(("circle", "b"), head + "d . perform c . b . perform a . a . perform b . c .")
        self.check(("circle", "b"), head + "a . b . perform c thru e . c . d . e . perform a thru b .")
        self.check(None, head + "perform b thru d . b . c . perform d . d .")
        self.check(("circle", "c"), head + "b . c . if 1 = 1 then stop . else perform b thru c . end .")
        # Paragraphs that are never performed count, too.
        self.check(("circle", "z"), head + "stop . z . perform z .")

    def test_512_calls(self):
        self.assertIsNone(check(chain(10)))
        self.assertEqual(check(chain(11)), ("calls", "q0"))
        self.assertEqual(check(chain(12)), ("calls", "q0"))
        # The main paragraph is not the one whose rank is too great.
        name, entries, files, paragraphs = chain(11)
        self.assertEqual(check((name, entries, files, (("main", ()), ("more", ())) + paragraphs)), ("calls", "q0"))
        deep = (("main", ()), ("more", (("perform", "q5", "q5", ("once",)),))) + paragraphs
        self.assertEqual(check((name, entries, files, deep)), ("calls", "q0"))

    def test_512_circle_comes_first(self):
        text = " ".join(f"q{at} . perform q{at + 1} ." for at in range(12))
        self.check(("circle", "q12"), "program p . data . files . procedure . " + text + " q12 . perform q12 .")


if __name__ == "__main__":
    unittest.main()
