import random
import unittest

from cardwright.code import Code
from cardwright.compiler import compile_program
from cardwright.examiner import examine
from cardwright.machine import run_code
from cardwright.shortener import shorten
from codes import DIGIT, EDITED, SIGNED, TWO, Pieces, ShortCase, code_of, code_of_paragraphs, has_ring
from whole import random_programs

MOST = 10 ** 9
BIG = 10 ** 60


def shows(number):
    return [("push", number), ("show-number", 0), ("show-line",)]


class TestShorten(ShortCase):
    def check_shorter(self, rows, shorter):
        """Check the code of one paragraph; both are given without the last `leave`."""
        self.check_paragraphs([rows], [shorter])

    def check_paragraphs(self, paragraphs, shorter):
        code = code_of_paragraphs(paragraphs, [DIGIT])
        examine(code)
        found = shorten(code)
        expected = code_of_paragraphs(shorter, [DIGIT])
        self.assertEqual((found.starts, found.instructions), (expected.starts, expected.instructions))
        self.check_short(found)
        examine(found)

    def test_803_what_is_not_come_by(self):
        self.check_shorter([], [])
        self.check_shorter(shows(1), shows(1))
        self.check_shorter([("halt", "end")] + shows(1), [("halt", "end")])
        self.check_shorter([("step", 1), ("jump", 0)] + shows(1), [("step", 1), ("jump", 0)])
        self.check_shorter([("jump", 4)] + shows(1) + shows(2), shows(2))
        self.check_paragraphs([[("call", 2, 2)], shows(1), shows(2), shows(3)], [[("call", 2, 2)], [], shows(2), []])
        self.check_paragraphs([[("halt", "stop"), ("call", 1, 1)], shows(1)], [[("halt", "stop")], []])

    def test_803_jumps_to_the_next_place(self):
        self.check_shorter([("jump", 1), ("jump", 2), ("step", 1)], [("step", 1)])
        self.check_shorter([("jump", 1)], [])
        self.check_shorter([("jump", 2), ("step", 3), ("step", 1)], [("step", 1)])
        # A `zero` to the next place takes a number, and stays.
        rows = [("at", 0), ("load", DIGIT), ("zero", 3), ("step", 1)]
        self.check_shorter(rows, rows)

    def test_803_steps(self):
        self.check_shorter([("step", 1)] * 5, [("step", 5)])
        self.check_shorter([("step", MOST - 1), ("step", 1)], [("step", MOST)])
        self.check_shorter([("step", MOST), ("step", 1)], [("step", MOST), ("step", 1)])
        self.check_shorter([("step", MOST)] * 3, [("step", MOST)] * 3)
        self.check_shorter([("step", 1), ("jump", 3), ("step", 7), ("step", 1)], [("step", 2)])
        self.check_shorter([("step", 1)] + shows(1) + [("step", 1)], [("step", 1)] + shows(1) + [("step", 1)])
        # A jump leads to the second one.
        rows = [("step", 1), ("step", 2), ("at", 0), ("load", DIGIT), ("zero", 1)]
        self.check_shorter(rows, rows)
        self.check_shorter([("step", 1), ("step", 2), ("step", 3), ("at", 0), ("load", DIGIT), ("zero", 1)],
                           [("step", 1), ("step", 5), ("at", 0), ("load", DIGIT), ("zero", 1)])
        # The jump that leads to it is never taken.
        self.check_shorter([("step", 1), ("step", 2), ("push", 1), ("zero", 1)], [("step", 3)])
        self.check_shorter([("step", 1), ("step", 2), ("halt", "end"), ("jump", 1)], [("step", 3), ("halt", "end")])

    def test_803_numbers_that_are_taken_at_once(self):
        for number in [0, 7, -7, BIG, -BIG]:
            self.check_shorter([("push", number), ("drop",), ("step", 1)], [("step", 1)])
            self.check_shorter([("push", number), ("negate",), ("show-number", 0)], [("push", -number), ("show-number", 0)])
        self.check_shorter([("push", 0), ("zero", 5)] + shows(1) + shows(2), shows(2))
        self.check_shorter([("push", 7), ("zero", 5)] + shows(1) + shows(2), shows(1) + shows(2))
        self.check_shorter([("step", 1), ("push", 0), ("zero", 0)], [("step", 1), ("jump", 0)])
        for op, results in [("=", (1, 0, 0)), ("<", (0, 1, 0)), (">", (0, 0, 1)), ("<=", (1, 1, 0)), (">=", (1, 0, 1)), ("<>", (0, 1, 1))]:
            for number, result in zip((0, -7, 7), results):
                self.check_shorter([("push", number), ("test", op), ("show-number", 0)], [("push", result), ("show-number", 0)])
        for picture, number, result in [(TWO, 123, 23), (TWO, -123, 23), (SIGNED, -1234, -234), (EDITED, -1234, -234), (DIGIT, BIG, 0)]:
            self.check_shorter([("push", number), ("trim", picture), ("show-number", 0)], [("push", result), ("show-number", 0)])

    def test_803_what_stays(self):
        for instruction in [("scale", 2), ("cut", 1), ("round", 1)]:
            rows = [("push", 5), instruction, ("show-number", 0)]
            self.check_shorter(rows, rows)
        rows = [("push", 5), ("double",), ("add",), ("show-number", 0)]
        self.check_shorter(rows, rows)
        rows = [("push", 5), ("push", 6), ("add",), ("drop",)]
        self.check_shorter(rows, rows)
        # A jump comes in between.
        rows = [("at", 0), ("load", DIGIT), ("double",), ("zero", 6), ("drop",), ("push", 3), ("negate",), ("show-number", 0)]
        self.check_shorter(rows, rows)

    def test_803_one_after_another(self):
        self.check_shorter([("push", 1)] * 4 + [("drop",)] * 4, [])
        self.check_shorter([("push", 5), ("negate",), ("test", "<"), ("trim", DIGIT), ("zero", 7), ("step", 1), ("step", 2)], [("step", 3)])
        self.check_shorter([("step", 1), ("push", 3), ("drop",), ("step", 2)], [("step", 3)])
        self.check_shorter([("step", 1), ("push", 0), ("negate",), ("zero", 5), ("show-line",), ("step", 2)], [("step", 3)])
        self.check_shorter([("push", 9), ("push", 1), ("drop",), ("drop",)], [])
        many = 3000
        self.check_shorter([("push", 1)] * many + [("drop",)] * many, [])
        self.check_shorter([("jump", at + 1) for at in range(many)], [])
        self.check_shorter([("push", 1), ("zero", 0)] * many, [])

    def test_802_jumps_to_what_is_taken_away(self):
        taken = [("at", 0), ("load", DIGIT), ("zero", 1)]
        self.check_shorter([("step", 1), ("push", 5), ("drop",), ("step", 2)] + taken, [("step", 1), ("step", 2)] + taken)
        self.check_shorter([("step", 1), ("push", 5), ("zero", 0), ("push", 0), ("zero", 5), ("step", 2)] + taken, [("step", 1), ("step", 2)] + taken)
        self.check_shorter([("step", 1), ("jump", 2), ("step", 2)] + taken, [("step", 1), ("step", 2)] + taken)
        self.check_shorter([("step", 1), ("push", 1), ("drop",), ("push", 7), ("drop",), ("step", 2)] + taken, [("step", 1), ("step", 2)] + taken)
        self.check_shorter([("push", 3), ("push", 5), ("drop",), ("drop",), ("step", 1), ("at", 0), ("load", DIGIT), ("zero", 0)],
                           [("step", 1), ("at", 0), ("load", DIGIT), ("zero", 0)])
        # A jump leads to a `push` that is taken together with what comes behind it.
        rows = [("at", 0), ("load", DIGIT), ("zero", 4), ("step", 1), ("push", 5), ("negate",), ("show-number", 0)]
        self.check_shorter(rows, rows[:4] + [("push", -5), ("show-number", 0)])

    def test_802_rings(self):
        self.check_shorter([("jump", 0)], [("jump", 0)])
        self.check_shorter([("jump", 1), ("jump", 0)], [("jump", 0)])
        self.check_shorter([("jump", 1), ("jump", 2), ("jump", 0)], [("jump", 0)])
        self.check_shorter([("jump", 2), ("jump", 0), ("jump", 1)], [("jump", 2), ("jump", 0), ("jump", 1)])
        self.check_shorter([("push", 0), ("zero", 0)], [("jump", 0)])

    def test_802_leave_in_the_middle(self):
        self.check_paragraphs([[("call", 1, 2)], [("leave", 2)] + shows(1), shows(2)], [[("call", 1, 2)], [("leave", 2)] + shows(1), shows(2)])
        self.check_paragraphs([[("step", 1), ("leave", 0), ("step", 1)]], [[("step", 1), ("leave", 0), ("step", 1)]])

    def test_803_a_paragraph_that_starts_in_between(self):
        self.check_paragraphs([[("call", 1, 2)], [("step", 1)], [("step", 1), ("step", 1)]], [[("call", 1, 2)], [("step", 1)], [("step", 2)]])

    def test_802_what_stays_the_same(self):
        storage = [DIGIT, TWO]
        code = code_of([("push", 1), ("drop",)], storage, [(TWO, "42")], (("output", "g", "r"),))
        before = (code.files, code.size, code.constants, dict(code.cells), code.starts, code.instructions)
        short = shorten(code)
        self.assertEqual((short.files, short.size, short.constants, short.cells, short.starts, short.instructions), before[:4] + ((0,), (("leave", 0),)))
        self.assertEqual((code.files, code.size, code.constants, code.cells, code.starts, code.instructions), before)
        self.assertIsInstance(short, Code)


class TestManyCodes(ShortCase):
    STORAGES = ["0+000ab123", "3-123  999"]
    LINES = {"f": ("ab", "x ", "too long")}

    def check_same(self, code, storage, lines, steps):
        short = shorten(code)
        self.assertEqual(run_code(short, storage, lines, steps), run_code(code, storage, lines, steps), (code.instructions, steps))

    def check_whole(self, code):
        examine(code)
        short = shorten(code)
        examine(short)
        self.check_short(short)
        self.assertEqual((short.files, short.size, short.constants, short.cells), (code.files, code.size, code.constants, code.cells))
        self.assertEqual(len(short.starts), len(code.starts))
        self.assertLessEqual(short.length(), code.length())
        again = shorten(short)
        self.assertEqual((again.starts, again.instructions), (short.starts, short.instructions))

    def test_802_codes_that_the_compiler_does_not_make(self):
        ends = {}
        for seed in range(700):
            code = Pieces(random.Random(seed)).code()
            self.check_whole(code)
            if has_ring(code):
                continue
            many = list(range(10)) + [25]
            if not has_ring(code, ""):
                many += [5 * 10 ** 8 - 1, 5 * 10 ** 8, MOST - 1, MOST, MOST + 1, MOST + 5 * 10 ** 8]
            for steps in many:
                for storage in self.STORAGES:
                    self.check_same(code, storage, self.LINES, steps)
            end = run_code(code, self.STORAGES[0], self.LINES, 25)[0]
            ends[end] = ends.get(end, 0) + 1
        # All kinds of ends are among them.
        self.assertEqual(sorted(ends), ["end", "index", "steps", "stop"])
        self.assertGreater(min(ends.values()), 5)

    def test_802_codes_that_the_compiler_makes(self):
        for program, _ in random_programs(3, 150):
            self.check_whole(compile_program(program))


if __name__ == "__main__":
    unittest.main()
