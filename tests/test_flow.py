import random
import unittest

from cardwright.flow import reached
from codes import Pieces, come_by


class TestReached(unittest.TestCase):
    def check(self, places, starts, *rows):
        for given in [(tuple(starts), tuple(rows)), (list(starts), list(rows))]:
            copies = [list(part) for part in given]
            found = reached(*given)
            self.assertIsInstance(found, dict)
            self.assertEqual(sorted(found), places, rows)
            self.assertEqual([list(part) for part in given], copies)

    def test_803_rows(self):
        self.check([0], (0,), ("leave", 0))
        self.check([0, 1, 2], (0,), ("step", 1), ("push", 1), ("leave", 0))
        self.check([0, 1], (0,), ("step", 1), ("halt", "end"), ("step", 1), ("leave", 0))
        self.check([], (), ("step", 1))
        self.check([0, 1], (0, 2), ("step", 1), ("leave", 0), ("step", 1), ("leave", 1))

    def test_803_jumps(self):
        self.check([0, 3], (0,), ("jump", 3), ("step", 1), ("step", 2), ("leave", 0))
        self.check([0, 1, 2, 3, 4], (0,), ("push", 0), ("zero", 4), ("step", 1), ("step", 1), ("leave", 0))
        self.check([0, 1, 2], (0,), ("push", 0), ("zero", 0), ("jump", 1), ("step", 2), ("leave", 0))
        self.check([0], (0,), ("jump", 0), ("step", 2), ("leave", 0))
        self.check([0, 2, 3], (0,), ("jump", 3), ("step", 2), ("leave", 0), ("jump", 2))
        self.check([0, 1, 3, 4], (0,), ("jump", 3), ("jump", 4), ("step", 1), ("jump", 1), ("leave", 0))

    def test_803_calls(self):
        last = [("leave", 1), ("leave", 2), ("leave", 3)]
        self.check([0, 1, 2], (0, 2, 3, 4), ("call", 1, 1), ("leave", 0), *last)
        self.check([0, 1, 2, 3], (0, 2, 3, 4), ("call", 1, 2), ("leave", 0), *last)
        self.check([0, 1, 3, 4], (0, 2, 3, 4), ("call", 2, 3), ("leave", 0), *last)
        # A call that is not come by does not count, and one in a paragraph that is called does.
        self.check([0], (0, 3, 4, 5), ("halt", "end"), ("call", 1, 2), ("leave", 0), *last)
        self.check([0, 1, 4, 5, 6], (0, 2, 4, 6), ("call", 2, 2), ("leave", 0), ("call", 1, 1), ("leave", 1), ("call", 3, 3), ("leave", 2), ("leave", 3))
        # A paragraph in the range is come by, also where another one ahead of it never ends.
        self.check([0, 1, 2, 4, 5], (0, 2, 4, 5), ("call", 1, 3), ("leave", 0), ("halt", "end"), ("leave", 1), *last[1:])

    def test_803_calls_of_itself(self):
        self.check([0, 1], (0,), ("call", 0, 0), ("leave", 0))
        self.check([0, 1, 2, 3], (0, 2), ("call", 1, 1), ("leave", 0), ("call", 0, 1), ("leave", 1))

    def test_803_leave_in_the_middle(self):
        self.check([0, 1, 2], (0, 3), ("leave", 1), ("leave", 0), ("leave", 0), ("leave", 1))
        self.check([0, 1], (0, 2), ("step", 1), ("leave", 0), ("leave", 1))

    def test_803_jumps_out_of_the_rows(self):
        self.check([0], (0,), ("jump", 9), ("leave", 0))
        self.check([0, 1], (0,), ("jump", 1), ("step", 1))

    def test_803_random(self):
        for seed in range(300):
            code = Pieces(random.Random(seed)).code()
            self.assertEqual(sorted(reached(code.starts, code.instructions)), sorted(come_by(code)), code.instructions)
            self.assertEqual(sorted(reached(list(code.starts), list(code.instructions))), sorted(come_by(code)))


if __name__ == "__main__":
    unittest.main()
