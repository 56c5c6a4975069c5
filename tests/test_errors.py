import unittest

from cardwright import errors
from cardwright.errors import (
    BadCode, BadData, BadDecimal, BadJob, BadPart, BadPicture, BadProgram, CardError, Halt)

KINDS = [BadDecimal, BadPicture, BadData, BadPart, BadProgram, BadCode, Halt, BadJob]


class TestErrors(unittest.TestCase):
    def test_101_card_error(self):
        self.assertEqual(CardError.__bases__, (ValueError,))

    def test_101_direct_subclasses(self):
        for kind in KINDS:
            self.assertEqual(kind.__bases__, (CardError,), kind)
            self.assertEqual(kind.__module__, errors.__name__)

    def test_101_none_is_a_subclass_of_another(self):
        for kind in KINDS:
            for other in KINDS:
                if kind != other:
                    self.assertFalse(issubclass(kind, other))

    def test_101_attributes_by_position(self):
        cases = [
            (BadData("level", "a"), {"reason": "level", "name": "a"}),
            (BadPart("unknown", "b"), {"reason": "unknown", "name": "b"}),
            (BadProgram(3, "word"), {"line": 3, "reason": "word"}),
            (BadCode(7, "form"), {"place": 7, "reason": "form"}),
            (Halt("stop"), {"end": "stop"}),
            (BadJob("way"), {"reason": "way"}),
        ]
        for error, attributes in cases:
            self.assertEqual(vars(error), attributes)

    def test_101_attributes_by_keyword(self):
        self.assertEqual(vars(BadData(name="n", reason="r")), {"reason": "r", "name": "n"})
        self.assertEqual(vars(BadPart(name="n", reason="r")), {"reason": "r", "name": "n"})
        self.assertEqual(vars(BadProgram(reason="r", line=2)), {"line": 2, "reason": "r"})
        self.assertEqual(vars(BadCode(reason="r", place=2)), {"place": 2, "reason": "r"})
        self.assertEqual(vars(Halt(end="e")), {"end": "e"})
        self.assertEqual(vars(BadJob(reason="r")), {"reason": "r"})

    def test_101_raised_and_caught(self):
        for error in [CardError(), BadDecimal(), BadPicture(), BadData("r", "n"), BadPart("r", "n"),
                      BadProgram(1, "r"), BadCode(1, "r"), Halt("end"), BadJob("r")]:
            with self.assertRaises(CardError) as caught:
                raise error
            self.assertIs(caught.exception, error)
            self.assertIsInstance(error, ValueError)


if __name__ == "__main__":
    unittest.main()
