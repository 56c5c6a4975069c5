import unittest

from cardwright.code import Code, check_forms
from cardwright.errors import BadCode

NUMBER = ("number", True, 3, 2)
EDITED = ("edited", "zz9", 3, 0, "")
TEXT = ("text", 4)
BIG = 10 ** 60
MOST = 10 ** 9

# For each kind of instruction one that has the right form, and what its items are.
SAMPLES = {
    ("step", 1): "s", ("push", -5): "n", ("at", 0): "p", ("index", 3, 2, -1, 5, 4): "psnss", ("load", NUMBER): "P", ("keep", EDITED): "P",
    ("try", NUMBER): "P", ("trim", EDITED): "P", ("scale", 2): "k", ("cut", 0): "k", ("round", 1): "k", ("add",): "", ("subtract",): "",
    ("multiply",): "", ("negate",): "", ("double",): "", ("drop",): "", ("test", "<="): "o", ("divide", 0, 2, NUMBER, True, None): "kkPbR",
    ("copy", 3, 4): "ss", ("figures", NUMBER, 4): "Ps", ("texts", 3, 4): "ss", ("digits", 3): "s", ("jump", 0): "p", ("zero", 7): "p",
    ("call", 0, 1): "pp", ("leave", 0): "p", ("read", "f", 0, 4, ((0, TEXT),)): "tpsc", ("write", "f", 0, 4): "tps", ("show-number", 2): "k",
    ("show-text", 3): "s", ("show-line",): "", ("sort", 0, 4, 3, 0, TEXT, False): "psspQb", ("halt", "stop"): "t",
}
RIGHT = {
    "s": [1, 2, MOST], "n": [0, 1, -1, BIG, -BIG], "p": [0, 1, MOST], "k": [0, 1, 1000], "b": [True, False], "o": ["=", "<", ">", "<=", ">=", "<>"],
    "t": ["", "f", "a b"], "P": [NUMBER, EDITED, ("number", False, 0, 18)], "Q": [NUMBER, EDITED, TEXT], "R": [None, NUMBER, EDITED],
    "c": [(), ((0, TEXT),), ((4, NUMBER), (0, EDITED)), ((MOST, TEXT),)],
}
ODD = [(), [], {}, 1.0, 0.5, b"a", object(), ("text",), ("number", 1, 3, 2), ("text", 0), ("text", 81), ("edited", "99", 2, 0, ""), len, (1,)]
WRONG = {
    "s": [0, -1, MOST + 1, True, False, "1", None, NUMBER] + ODD, "n": [BIG + 1, -BIG - 1, True, False, "1", None, NUMBER] + ODD,
    "p": [-1, MOST + 1, True, False, "1", None, NUMBER] + ODD, "k": [-1, 1001, True, False, "1", None, NUMBER] + ODD,
    "b": [0, 1, None, "True", NUMBER] + ODD, "o": ["==", "", " =", "<=>", None, 1, True, ["="], NUMBER] + ODD, "t": [None, 1, True, NUMBER, ["f"]] + ODD,
    "P": [TEXT, None, 1, True, "9", list(NUMBER), ("number", True, 3.0, 2), ("number", True, True, 2)] + ODD,
    "Q": [None, 1, True, "9", list(TEXT), ("text", True), ("text", 4.0)] + ODD, "R": [TEXT, 1, True, False, "", list(NUMBER)] + ODD,
    "c": [None, 1, True, "", [], [(0, TEXT)], (0, TEXT), ((0, TEXT), None), ((-1, TEXT),), ((MOST + 1, TEXT),), ((True, TEXT),), ((0, "x"),),
          ((0, TEXT, 1),), ((0,),), ([0, TEXT],), ((0, TEXT), (4, ("text", 0))), ((0.0, TEXT),), {0: TEXT}],
}
FORMS = [None, 1, True, "stop", "step", ["stop"], ["step", 1], (), (None,), (1,), (("step", 1),), ("",), ("stop",), ("end", 1), ("Step", 1), (["step"], 1),
         ({}, 1), {"step": 1}, b"step", ("show", 1), ("show-number ", 1)]


def code_of(*instructions):
    return Code((), 0, "", (), (0,), instructions)


class TestForms(unittest.TestCase):
    def check(self, place, reason, *instructions):
        with self.assertRaises(BadCode, msg=instructions) as caught:
            check_forms(code_of(*instructions))
        self.assertEqual((caught.exception.place, caught.exception.reason), (place, reason), instructions)

    def test_705_right(self):
        self.assertIsNone(check_forms(code_of()))
        self.assertIsNone(check_forms(code_of(*SAMPLES)))
        for sample, sorts in SAMPLES.items():
            self.assertEqual(len(sample), 1 + len(sorts))
            for at, sort in enumerate(sorts):
                for value in RIGHT[sort]:
                    self.assertIsNone(check_forms(code_of(sample[:at + 1] + (value,) + sample[at + 2:])))

    def test_705_wrong_items(self):
        for sample, sorts in SAMPLES.items():
            for at, sort in enumerate(sorts):
                for value in WRONG[sort]:
                    if not (sort == "c" and value == ()):
                        self.check(0, "item", sample[:at + 1] + (value,) + sample[at + 2:])

    def test_705_wrong_forms(self):
        for sample in SAMPLES:
            self.check(0, "form", sample + (1,))
            self.check(0, "form", sample + (None,))
            self.check(0, "form", sample[1:])
            self.check(0, "form", list(sample))
            self.check(0, "form", (sample[0] + " ",) + sample[1:])
            if len(sample) > 1:
                self.check(0, "form", sample[:-1])
                self.check(0, "form", sample[:-1] + ())
        for value in FORMS:
            self.check(0, "form", value)

    def test_705_form_ahead_of_item(self):
        self.check(0, "form", ("step", True, 1))
        self.check(0, "form", ("divide", True, 2, NUMBER, True))

    def test_705_the_first_place(self):
        self.check(2, "item", ("add",), ("halt", "end"), ("step", 0), ("step",), None)
        self.check(1, "form", ("add",), ("step",), ("step", 0), None)
        self.check(3, "form", ("add",), ("add",), ("add",), None)
        self.check(0, "item", ("at", -1), ("leave",))


class TestCode(unittest.TestCase):
    FILES = (("input", "f", "row"),)
    CELLS = ((0, TEXT), (4, NUMBER))

    def test_701_attributes(self):
        code = Code(self.FILES, 4, "+00000", self.CELLS, [0, 2], [("add",), ("leave", 0), ("leave", 1)])
        self.assertEqual(code.files, self.FILES)
        self.assertEqual(code.size, 4)
        self.assertEqual(code.constants, "+00000")
        self.assertEqual(code.cells, {0: TEXT, 4: NUMBER})
        self.assertIsInstance(code.cells, dict)
        self.assertEqual(code.starts, (0, 2))
        self.assertEqual(code.instructions, (("add",), ("leave", 0), ("leave", 1)))
        self.assertEqual(code.length(), 3)

    def test_701_region(self):
        code = Code((), 0, "", (), (0, 2, 2, 5), [("add",)] * 7)
        self.assertEqual([code.region(at) for at in range(4)], [(0, 2), (2, 2), (2, 5), (5, 7)])
        self.assertEqual(Code((), 0, "", (), (0,), ()).region(0), (0, 0))
        self.assertEqual(Code((), 0, "", (), (0,), [("add",)]).region(0), (0, 1))
        self.assertEqual(Code((), 0, "", (), (), ()).length(), 0)

    def test_701_with_instructions(self):
        code = Code(self.FILES, 4, "+00000", self.CELLS, (0,), (("leave", 0),))
        other = code.with_instructions([0, 1], [("leave", 0), ("leave", 1)])
        self.assertEqual((other.files, other.size, other.constants, other.cells), (self.FILES, 4, "+00000", {0: TEXT, 4: NUMBER}))
        self.assertEqual((other.starts, other.instructions), ((0, 1), (("leave", 0), ("leave", 1))))
        self.assertEqual((code.starts, code.instructions), ((0,), (("leave", 0),)))
        self.assertIsNot(other.cells, code.cells)

    def test_3_what_is_passed_stays(self):
        starts = [0]
        rows = [("leave", 0)]
        code = Code(self.FILES, 4, "+00000", self.CELLS, starts, rows)
        starts.append(1)
        rows.append(("leave", 1))
        self.assertEqual((code.starts, code.instructions), ((0,), (("leave", 0),)))
        check_forms(code)
        self.assertEqual((code.starts, code.instructions), ((0,), (("leave", 0),)))


if __name__ == "__main__":
    unittest.main()
