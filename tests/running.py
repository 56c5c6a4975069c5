"""Short ways to write a program, to run it by its plain meaning, and to look at its outcome."""

import unittest

from cardwright.checker import check
from cardwright.layout import Layout
from cardwright.meaning import run_plain
from cardwright.parsing import parse


def build(data, procedure, files=""):
    """Return the program tree with this data and these statements or paragraphs; the checker lets it by."""
    program = parse(f"program p . data . {data} files . {files} procedure . main . {procedure}")
    assert check(program) is None, (check(program), data, procedure)
    return program


def part_of(program, outcome, name):
    """Return the text of all occurrences of an item without other dimensions in the storage of an outcome."""
    item = Layout(program[1]).item(name)
    return outcome[2][item.offset:item.offset + item.size * max(1, item.times)]


class RunCase(unittest.TestCase):
    def check_run(self, program, texts, *, end="end", left=None, lines=None, steps=1000, shown=None):
        """Check the texts of items, given as a dict, and other parts of the outcome."""
        outcome = run_plain(program, {} if lines is None else lines, steps)
        self.assertEqual(outcome[0], end)
        if left is not None:
            self.assertEqual(outcome[1], left)
        for name, text in texts.items():
            self.assertEqual(part_of(program, outcome, name), text, name)
        if shown is not None:
            self.assertEqual(outcome[4], shown)
        return outcome

    def check_steps(self, program, many, *, end="end", lines=None):
        """Check that a run takes so many steps: it ends with fewer, has none left with as many, and one with one more."""
        given = {} if lines is None else lines
        for steps in range(many):
            self.assertEqual(run_plain(program, given, steps)[:2], ("steps", 0), steps)
        self.assertEqual(run_plain(program, given, many)[:2], (end, 0))
        self.assertEqual(run_plain(program, given, many + 1)[:2], (end, 1))
