"""What the program promises as a whole (points 1 to 3)."""

import unittest

from cardwright.checker import check
from cardwright.compiler import compile_program
from cardwright.examiner import examine
from cardwright.jobs import load, run_job
from cardwright.layout import Layout
from cardwright.machine import run_code
from cardwright.meaning import run_plain
from cardwright.parsing import parse
from cardwright.shortener import shorten
from cardwright.storage import record_holds
from cardwright.writing import text_of
from whole import random_programs

WAYS = ["plain", "code", "short"]


class TestPromises(unittest.TestCase):
    def test_2_one_outcome(self):
        for program, lines in random_programs(11, 150):
            text = text_of(program)
            last = run_job(text, lines, 40, "plain")
            many = 40 - last[1]
            for steps in [0, 1, many // 2, many - 1, many, many + 1]:
                if steps >= 0:
                    outcomes = [run_job(text, lines, steps, way) for way in WAYS]
                    self.assertEqual(outcomes[0], outcomes[1], (text, lines, steps))
                    self.assertEqual(outcomes[0], outcomes[2], (text, lines, steps))

    def test_2_every_field_keeps_its_picture(self):
        for program, lines in random_programs(12, 120):
            layout = Layout(program[1])
            records = layout.records()
            cells = [(layout.item(name).offset + offset, picture) for name in records for offset, picture in layout.cells(name)]
            short = shorten(compile_program(program))
            first = layout.first_storage()
            for steps in range(25):
                for outcome in [run_plain(program, lines, steps), run_code(short, first, lines, steps)]:
                    self.assertTrue(record_holds(layout.size(), cells, outcome[2]), (program, lines, steps))

    def test_2_nothing_gets_stuck(self):
        for program, _ in random_programs(13, 150):
            code = compile_program(program)
            self.assertIsNone(examine(code))
            self.assertIsNone(examine(shorten(code)))

    def test_2_texts_and_trees(self):
        for program, lines in random_programs(14, 150):
            text = text_of(program)
            self.assertEqual(parse(text), program)
            self.assertEqual(load(text), program)
            self.assertEqual(text_of(parse(text)), text)
            self.assertEqual(run_plain(parse(text), lines, 30), run_plain(program, lines, 30))

    def test_3_no_argument_is_modified(self):
        for program, lines in random_programs(15, 40):
            copy = {name: tuple(rows) for name, rows in lines.items()}
            text = text_of(program)
            check(program)
            code = compile_program(program)
            instructions = code.instructions
            short = shorten(code)
            run_plain(program, lines, 20)
            run_code(code, Layout(program[1]).first_storage(), lines, 20)
            run_code(short, Layout(program[1]).first_storage(), lines, 20)
            self.assertEqual(lines, copy)
            self.assertEqual(text_of(program), text)
            self.assertEqual(code.instructions, instructions)


if __name__ == "__main__":
    unittest.main()
