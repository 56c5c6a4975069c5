import unittest
from fractions import Fraction

from cardwright.decimals import (
    add, aligned, compare, divide, fits, multiply, negative, normal, parse, power, quotient, show,
    subtract, units_at)
from cardwright.errors import BadDecimal

SOME = [(0, 0), (1, 0), (-1, 0), (5, 1), (-5, 1), (125, 2), (-125, 2), (10, 0), (-700, 0), (999, 3), (-1, 3),
        (123456789012345678, 18), (-123456789012345678, 7)]
LONG = [(int("7" * 400), 0), (int("3" * 333 + "1"), 200), (-int("1" * 500 + "9"), 450), (1, 300)]


def value(decimal):
    return Fraction(decimal[0], 10 ** decimal[1])


def nearest(fraction):
    """Round a fraction; from the middle away from 0."""
    size = (2 * abs(fraction.numerator) + fraction.denominator) // (2 * fraction.denominator)
    return size if fraction >= 0 else -size


def cut(fraction):
    size = abs(fraction.numerator) // fraction.denominator
    return size if fraction >= 0 else -size


class TestForms(unittest.TestCase):
    def check_decimal(self, found, expected):
        self.assertIs(type(found), tuple)
        self.assertEqual(len(found), 2)
        self.assertEqual([type(part) for part in found], [int, int])
        self.assertEqual(value(found), expected)
        units, scale = found
        self.assertGreaterEqual(scale, 0)
        self.assertTrue(scale == 0 or units % 10 != 0, found)

    def test_104_normal(self):
        cases = [((0, 0), (0, 0)), ((0, 5), (0, 0)), ((1250, 2), (125, 1)), ((-1250, 2), (-125, 1)),
                 ((100, 2), (1, 0)), ((100, 0), (100, 0)), ((100, 1), (10, 0)), ((-100, 5), (-1, 3)),
                 ((7, 3), (7, 3)), ((-7, 0), (-7, 0)), ((10 ** 300, 299), (10, 0)),
                 ((10 ** 300 + 10, 299), (10 ** 299 + 1, 298))]
        for (units, scale), expected in cases:
            self.assertEqual(normal(units, scale), expected)

    def test_104_least_scale(self):
        for units in range(-1200, 1201, 7):
            for scale in range(5):
                self.check_decimal(normal(units, scale), Fraction(units, 10 ** scale))

    def test_104_power(self):
        for exponent in list(range(70)) + [99, 100, 255, 256, 1000]:
            self.assertEqual(power(exponent), 10 ** exponent)

    def test_104_aligned(self):
        self.assertEqual(aligned((125, 2), 2), 125)
        self.assertEqual(aligned((125, 2), 5), 125000)
        self.assertEqual(aligned((-3, 0), 1), -30)
        self.assertEqual(aligned((0, 0), 60), 0)
        self.assertEqual(aligned((1, 0), 300), 10 ** 300)

    def test_105_exact(self):
        for a in SOME + LONG:
            self.check_decimal(negative(a), -value(a))
            for b in SOME + LONG:
                self.check_decimal(add(a, b), value(a) + value(b))
                self.check_decimal(subtract(a, b), value(a) - value(b))
                self.check_decimal(multiply(a, b), value(a) * value(b))
                order = (value(a) > value(b)) - (value(a) < value(b))
                self.assertEqual(compare(a, b), order)

    def test_105_least_scale_of_results(self):
        self.assertEqual(add((5, 1), (5, 1)), (1, 0))
        self.assertEqual(add((5, 1), (-5, 1)), (0, 0))
        self.assertEqual(subtract((125, 2), (25, 2)), (1, 0))
        self.assertEqual(subtract((1, 3), (1, 3)), (0, 0))
        self.assertEqual(multiply((5, 1), (2, 1)), (1, 1))
        self.assertEqual(multiply((5, 1), (20, 0)), (10, 0))
        self.assertEqual(multiply((0, 0), (5, 3)), (0, 0))
        self.assertEqual(negative((0, 0)), (0, 0))

    def test_105_compare_close_ones(self):
        self.assertEqual(compare((10 ** 400 + 1, 400), (1, 0)), 1)
        self.assertEqual(compare((1, 0), (10 ** 400 + 1, 400)), -1)
        self.assertEqual(compare((-1, 400), (0, 0)), -1)
        self.assertEqual(compare((2, 0), (15, 1)), 1)
        self.assertEqual(compare((-15, 1), (-15, 1)), 0)

    def test_105_fits(self):
        self.assertIs(fits(0, 0), True)
        self.assertIs(fits(0, 3), True)
        self.assertIs(fits(1, 0), False)
        for digits in [1, 2, 17, 18, 60]:
            self.assertIs(fits(10 ** digits - 1, digits), True)
            self.assertIs(fits(1 - 10 ** digits, digits), True)
            self.assertIs(fits(10 ** digits, digits), False)
            self.assertIs(fits(-10 ** digits, digits), False)


class TestQuotients(unittest.TestCase):
    def test_106_quotient(self):
        for above in range(-60, 61):
            for below in range(-13, 14):
                if below != 0:
                    exact = Fraction(above, below)
                    self.assertEqual(quotient(above, below, True), nearest(exact), (above, below))
                    self.assertEqual(quotient(above, below, False), cut(exact), (above, below))

    def test_106_middle(self):
        self.assertEqual([quotient(n, 2, True) for n in (-5, -3, -1, 1, 3, 5)], [-3, -2, -1, 1, 2, 3])
        self.assertEqual([quotient(n, -2, True) for n in (-5, -1, 1, 5)], [3, 1, -1, -3])
        self.assertEqual([quotient(n, 2, False) for n in (-5, -3, -1, 1, 3, 5)], [-2, -1, 0, 0, 1, 2])

    def test_106_quotient_of_long_integers(self):
        big = 10 ** 400
        self.assertEqual(quotient(big + 1, 2, True), big // 2 + 1)
        self.assertEqual(quotient(-big - 1, 2, True), -(big // 2) - 1)
        self.assertEqual(quotient(big + 1, 2, False), big // 2)
        self.assertEqual(quotient(big - 1, big, False), 0)
        self.assertEqual(quotient(big - 1, big, True), 1)

    def test_106_units_at(self):
        self.assertEqual(units_at((-2345, 3), 2, True), -235)
        self.assertEqual(units_at((-2345, 3), 2, False), -234)
        self.assertEqual(units_at((2345, 3), 2, True), 235)
        self.assertEqual(units_at((2344, 3), 2, True), 234)
        self.assertEqual(units_at((2345, 3), 3, False), 2345)
        self.assertEqual(units_at((2345, 3), 5, False), 234500)
        self.assertEqual(units_at((-5, 1), 0, True), -1)
        self.assertEqual(units_at((-5, 1), 0, False), 0)
        self.assertEqual(units_at((0, 0), 4, True), 0)

    def test_106_units_at_every_scale(self):
        for a in SOME + LONG:
            for scale in [0, 1, 2, 3, 6, 18, 200, 449, 460]:
                exact = value(a) * 10 ** scale
                self.assertEqual(units_at(a, scale, True), nearest(exact))
                self.assertEqual(units_at(a, scale, False), cut(exact))

    def test_106_divide(self):
        for a in SOME + LONG:
            for b in SOME + LONG:
                if b[0] == 0:
                    continue
                for scale in [0, 1, 2, 18, 60]:
                    exact = value(a) / value(b) * 10 ** scale
                    self.assertEqual(divide(a, b, scale, True), nearest(exact))
                    self.assertEqual(divide(a, b, scale, False), cut(exact))

    def test_106_divide_examples(self):
        self.assertEqual(divide((2, 0), (3, 0), 2, True), 67)
        self.assertEqual(divide((2, 0), (3, 0), 2, False), 66)
        self.assertEqual(divide((-2, 0), (3, 0), 2, True), -67)
        self.assertEqual(divide((1, 0), (8, 0), 2, True), 13)
        self.assertEqual(divide((1, 0), (-8, 0), 2, True), -13)
        self.assertEqual(divide((1, 0), (8, 0), 3, True), 125)

    def test_106_divide_by_0(self):
        for a in [(0, 0), (1, 0), (-5, 3)]:
            for is_rounded in (True, False):
                with self.assertRaises(BadDecimal):
                    divide(a, (0, 0), 2, is_rounded)


class TestTexts(unittest.TestCase):
    def test_107_show(self):
        cases = [((0, 0), "0"), ((7, 0), "7"), ((-7, 0), "-7"), ((100, 0), "100"), ((125, 1), "12.5"),
                 ((-125, 1), "-12.5"), ((5, 1), "0.5"), ((-5, 1), "-0.5"), ((5, 3), "0.005"),
                 ((-12, 3), "-0.012"), ((205, 2), "2.05"), ((1234, 3), "1.234")]
        for decimal, text in cases:
            self.assertEqual(show(decimal), text)

    def test_107_show_long_ones(self):
        for figures in [17, 18, 19, 35, 36, 37, 400, 5000]:
            text = ("1203405" * figures)[:figures]
            units = 0
            for character in text:
                units = units * 10 + "0123456789".index(character)
            self.assertEqual(show((units, 0)), text)
            self.assertEqual(show((-units, 3)), "-" + text[:-3] + "." + text[-3:])
        self.assertEqual(show((10 ** 18, 0)), "1" + "0" * 18)
        self.assertEqual(show((10 ** 18 - 1, 0)), "9" * 18)
        self.assertEqual(show((10 ** 36 + 1, 40)), "0.0001" + "0" * 35 + "1")

    def test_107_parse(self):
        cases = [("0", (0, 0)), ("-0", (0, 0)), ("0.00", (0, 0)), ("-0.0", (0, 0)), ("2.50", (25, 1)),
                 ("-12.50", (-125, 1)), ("7.000", (7, 0)), ("0.05", (5, 2)), ("100", (100, 0)),
                 ("-100", (-100, 0)), ("10.010", (1001, 2)), ("0.5", (5, 1)), ("-3", (-3, 0))]
        for text, decimal in cases:
            self.assertEqual(parse(text), decimal)

    def test_107_spells_none(self):
        for text in ["", " ", "-", "007", "00", "01", "-01", "00.5", "1.", "-1.", ".5", "-.5", ".", "+1", "+0",
                     "--1", "1-", "1.2.3", "1..2", "1.-2", "1.+2", "- 1", " 1", "1 ", "1. 5", "1 .5", "1,5",
                     "1e5", "1_0", "a", "0x1", "1\n", "\u0661", "1.\u0662", "\u00b2", "1.5a", "'1'", "-1.a"]:
            with self.assertRaises(BadDecimal, msg=repr(text)):
                parse(text)

    def test_107_most_figures(self):
        self.assertEqual(parse("9" * 18), (10 ** 18 - 1, 0))
        self.assertEqual(parse("-" + "9" * 18), (1 - 10 ** 18, 0))
        self.assertEqual(parse("1." + "0" * 16 + "1"), (10 ** 17 + 1, 17))
        self.assertEqual(parse("0." + "0" * 17), (0, 0))
        self.assertEqual(parse("-12345678.9012345678"), (-123456789012345678, 10))
        for text in ["1" * 19, "-" + "1" * 19, "1." + "0" * 18, "0." + "0" * 18, "-0." + "1" * 18, "1" * 18 + ".0",
                     "1" * 5000]:
            with self.assertRaises(BadDecimal):
                parse(text)

    def test_107_show_of_parse(self):
        for text in ["0", "1", "-1", "12.5", "-0.001", "9" * 18, "-" + "9" * 18, "0." + "0" * 16 + "1", "100"]:
            self.assertEqual(show(parse(text)), text)
        self.assertEqual(show(parse("2.50")), "2.5")
        self.assertEqual(show(parse("-0")), "0")
        self.assertEqual(show(parse("3.00")), "3")

    def test_107_parse_of_show(self):
        for units in range(-300, 301):
            for scale in range(4):
                decimal = normal(units, scale)
                self.assertEqual(parse(show(decimal)), decimal)


if __name__ == "__main__":
    unittest.main()
