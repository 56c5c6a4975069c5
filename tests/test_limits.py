import unittest

from cardwright import limits

EXPECTED = {
    "MOST_NAME": 20, "MOST_DIGITS": 18, "MOST_TEXT": 80, "MOST_TIMES": 50, "MOST_STORAGE": 4000,
    "MOST_LINE": 4000, "MOST_STEPS": 10 ** 9, "MOST_DEPTH": 20, "MOST_SCALE": 60, "MOST_NEST": 8,
    "MOST_CALLS": 10, "MOST_PROGRAM": 40000, "MOST_LEVEL": 49,
}


class TestLimits(unittest.TestCase):
    def test_102_all_limits(self):
        found = {name: value for name, value in vars(limits).items() if name.startswith("MOST_")}
        self.assertEqual(found, EXPECTED)
        for value in found.values():
            self.assertIs(type(value), int)


if __name__ == "__main__":
    unittest.main()
