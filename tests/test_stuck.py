"""Code that the examiner lets by never gets stuck (point 709), and is shortened without a change of its runs (802)."""

import random

from cardwright.compiler import compile_program
from cardwright.examiner import examine
from cardwright.layout import Layout
from cardwright.machine import run_code
from cardwright.shortener import shorten
from cardwright.storage import record_holds
from codes import Changes, Pieces, ShortCase, has_ring, is_let_by
from whole import random_programs


class TestStuck(ShortCase):
    def check_runs(self, code, storage, lines):
        short = shorten(code)
        examine(short)
        self.check_short(short)
        self.assertEqual(shorten(short).instructions, short.instructions)
        if has_ring(code):
            return False
        cells = [(offset, picture) for offset, picture in code.cells.items() if offset < code.size]
        for steps in (0, 2, 7, 30):
            outcome = run_code(code, storage, lines, steps)
            self.assertEqual(run_code(short, storage, lines, steps), outcome, code.instructions)
            self.assertTrue(record_holds(code.size, cells, outcome[2]), code.instructions)
        return True

    def check_changes(self, maker, base, storage, lines):
        """Return how many codes that differ from a code were let by and run."""
        changes = Changes(maker, base)
        many = 0
        for _ in range(30):
            code = changes.made()
            if is_let_by(code) and self.check_runs(code, storage, lines) and code.instructions != base.instructions:
                many += 1
        return many

    def test_709_changed_code_of_programs(self):
        maker = random.Random(7)
        many = [self.check_changes(maker, compile_program(program), Layout(program[1]).first_storage(), lines) for program, lines in random_programs(6, 120)]
        self.assertGreater(sum(many), 200)

    def test_709_other_code(self):
        maker = random.Random(8)
        many = [self.check_changes(maker, Pieces(maker).code(), storage, {"f": ("ab", "x", "too long")}) for storage in ["0+000ab123", "3-123it999"] for _ in range(60)]
        self.assertGreater(sum(many), 100)
