import itertools
import unittest

from cardwright.editing import holds, reading, suits, trimmed, value_of, written
from cardwright.errors import BadPicture
from cardwright.pictures import digits_in, is_signed, parse_picture, size_of

NUMBERS = [
    ("9(4)", 0, "0000"), ("9(4)", 7, "0007"), ("9(4)", 9999, "9999"), ("99v99", 1234, "1234"), ("v99", 5, "05"),
    ("s9(3)v99", -150, "-00150"), ("s9(3)v99", 150, "+00150"), ("s9", 0, "+0"), ("s9", -9, "-9"),
    ("9(18)", 10 ** 18 - 1, "9" * 18), ("s9(18)", 1 - 10 ** 18, "-" + "9" * 18), ("9(18)", 3, "0" * 17 + "3"),
]

EDITED = [
    # each mark, hiding on and off
    ("zzz", 0, "   "), ("zzz", 5, "  5"), ("zzz", 50, " 50"), ("zzz", 500, "500"), ("zzz", 507, "507"),
    ("***", 0, "***"), ("***", 5, "**5"), ("***", 123, "123"), ("zz9", 0, "  0"), ("zz9", 10, " 10"), ("**9", 0, "**0"),
    ("z99", 0, " 00"), ("*99", 7, "*07"), ("9,99", 0, "0,00"), ("9.99", 0, "0.00"), ("9.99", 123, "1.23"),
    ("zz.99", 0, "  .00"), ("zz.99", 5, "  .05"), ("**.99", 0, "**.00"), ("zz.99", 1234, "12.34"), ("z.9", 0, " .0"),
    ("*.9", 10, "1.0"),
    ("z,zz9", 0, "    0"), ("z,zz9", 999, "  999"), ("z,zz9", 1000, "1,000"), ("*,**9", 12, "***12"),
    ("*,**9", 1234, "1,234"), ("z,z,z", 0, "     "), ("z,z,z", 10, "  1,0"), ("z,z,z", 100, "1,0,0"),
    ("zb9", 5, "  5"), ("zb9", 15, "1 5"), ("*b9", 5, "**5"), ("*b9", 15, "1 5"), ("9b9", 5, "0 5"),
    ("z09", 5, "  5"), ("z09", 15, "105"), ("*09", 5, "**5"), ("*0*", 50, "500"), ("z0z", 0, "   "), ("z0z", 7, "  7"),
    ("z/9", 5, "  5"), ("z/9", 15, "1/5"), ("*/9", 5, "**5"), ("99/99/99", 70503, "07/05/03"), ("9,9", 7, "0,7"),
    ("z,.9", 7, "  .7"), ("z,.9", 17, "1,.7"), ("*,.9", 7, "**.7"), ("9,", 7, "7,"), ("z,", 0, "  "), ("z,", 3, "3,"),
    ("*0", 0, "**"), ("*0", 4, "40"), ("9b0/,", 1, "1 0/,"), ("zb0/,9", 1, "     1"), ("*b0/,9", 1, "*****1"),
    ("zb0/,9", 11, "1 0/,1"), ("*b0/,9", 11, "1 0/,1"), ("z9,9", 0, " 0,0"), ("zz,zz9.99", 123456, " 1,234.56"),
    ("z9b9", 5, " 0 5"), ("*9b9", 5, "*0 5"),
    # each sign
    ("-99", 5, " 05"), ("-99", -5, "-05"), ("-99", 0, " 00"), ("+99", 5, "+05"), ("+99", -5, "-05"), ("+99", 0, "+00"),
    ("99-", 5, "05 "), ("99-", -5, "05-"), ("99-", 0, "00 "), ("99+", 5, "05+"), ("99+", -5, "05-"), ("99+", 0, "00+"),
    ("99cr", 5, "05  "), ("99cr", -5, "05CR"), ("99cr", 0, "00  "), ("99db", 5, "05  "), ("99db", -5, "05DB"),
    ("99db", 0, "00  "), ("-zz", 0, "   "), ("-zz", -7, "- 7"), ("+**", 0, "+**"), ("+**", -7, "-*7"), ("zz-", -7, " 7-"),
    ("zz,zz9.99-", -123456, " 1,234.56-"), ("**,**9.99cr", 7, "*****0.07  "), ("**,**9.99cr", -7, "*****0.07CR"),
    ("-9(18)", 1 - 10 ** 18, "-" + "9" * 18), ("z(18)", 10 ** 18 - 1, "9" * 18), ("z(18)", 0, " " * 18),
]

SMALL = [
    "9", "99", "s9", "v9", "s9v9", "z", "zz", "*", "**", "z9", "*9", "z.9", "*.9", "9.9", "z,9", "*,9", "zb9", "*b9",
    "z0z", "*0*", "z/z", "90", "9b", "z,", "*,", "-9", "+9", "9-", "9+", "-z", "+z", "z-", "z+", "-*", "+*", "*-", "*+",
    "9cr", "9db", "zcr", "*db", "-z9", "z9+", "z0", "*0", "z,z", "*/*", "9,9", "9/", "z.9-",
]


def other_way(picture, units):
    """Write an edited field in another way: all of it, then the filler over what is hidden."""
    _, marks, whole, fraction, sign = picture
    digits = list(str(abs(units)).zfill(whole + fraction))
    shown = ""
    hidden = None
    for at, mark in enumerate(marks):
        character = digits.pop(0) if mark in "z*9" else {"b": " "}.get(mark, mark)
        if hidden is None and (mark in "9." or (mark in "z*" and character != "0")):
            hidden = at
        shown += character
    if hidden is None:
        hidden = len(marks)
    if marks[0] in "z*":
        shown = {"z": " ", "*": "*"}[marks[0]] * hidden + shown[hidden:]
    if sign in ("cr", "db"):
        return shown + (sign.upper() if units < 0 else "  ")
    if sign == "":
        return shown
    letter = "-" if units < 0 else {"-": " ", "+": "+"}[sign[-1]]
    return shown + letter if sign[0] == "." else letter + shown


def suiting_units(picture):
    most = 10 ** sum(digits_in(picture))
    return range(1 - most if is_signed(picture) else 0, most)


class TestSuits(unittest.TestCase):
    def test_207_suits(self):
        cases = [
            ("9", 0, True), ("9", 9, True), ("9", 10, False), ("9", -1, False), ("s9", -9, True), ("s9", -10, False),
            ("s9", 10, False), ("99v99", 9999, True), ("99v99", 10000, False), ("99v99", -1, False), ("v9", 9, True),
            ("v9", 10, False), ("9(18)", 10 ** 18 - 1, True), ("9(18)", 10 ** 18, False), ("zz9", 999, True),
            ("zz9", 1000, False), ("zz9", -1, False), ("zz9.9", 9999, True), ("zz9.9", 10000, False), ("-9", -9, True),
            ("-9", -10, False), ("+9", -9, True), ("9-", -9, True), ("9+", -9, True), ("9cr", -9, True), ("9db", -9, True),
            ("9cr", 10, False), ("z00", 9, True), ("z00", 10, False), ("zz", 0, True),
        ]
        for text, units, answer in cases:
            self.assertIs(suits(parse_picture(text), units), answer, (text, units))


class TestWritten(unittest.TestCase):
    def test_208_number_fields(self):
        for text, units, field in NUMBERS:
            self.assertEqual(written(parse_picture(text), units), field, (text, units))

    def test_209_edited_fields(self):
        for text, units, field in EDITED:
            self.assertEqual(written(parse_picture(text), units), field, (text, units))

    def test_209_edited_fields_in_another_way(self):
        bodies = ["zz9", "z,zz", "*,**.99", "zb0/z,9", "*b0/*,9.9", "9,9b9", "z,,z0.9", "zzz/", "***b", "9909"]
        for body in bodies:
            for text in [body, "-" + body, "+" + body, body + "-", body + "+", body + "cr", body + "db"]:
                picture = parse_picture(text)
                for units in list(suiting_units(picture))[::7] + [0]:
                    self.assertEqual(written(picture, units), other_way(picture, units), (text, units))

    def test_209_size(self):
        for text, units, _ in NUMBERS + EDITED:
            picture = parse_picture(text)
            self.assertEqual(len(written(picture, units)), size_of(picture))

    def test_207_units_that_do_not_suit(self):
        for text, units in [("9", 10), ("9", -1), ("s9", 10), ("s9", -10), ("99v99", 10000), ("zz9", 1000), ("zz9", -1),
                            ("-9", -10), ("9cr", 10), ("9.9", 100), ("9.9", -1), ("**", -5), ("9(18)", 10 ** 18)]:
            with self.assertRaises(BadPicture, msg=(text, units)):
                written(parse_picture(text), units)


class TestReading(unittest.TestCase):
    def test_210_reading_of_written(self):
        for text, units, field in NUMBERS + EDITED:
            self.assertEqual(reading(parse_picture(text), field), units, (text, field))

    def test_210_small_pictures_whole(self):
        for text in SMALL:
            picture = parse_picture(text)
            fields = {written(picture, units): units for units in suiting_units(picture)}
            self.assertEqual(len(fields), len(suiting_units(picture)))
            for field, units in fields.items():
                self.assertEqual(reading(picture, field), units, (text, field))

    def test_210_texts_that_no_units_have(self):
        alphabet = "0159 *+-,./CRDBv"
        for text in SMALL:
            picture = parse_picture(text)
            fields = {written(picture, units): units for units in suiting_units(picture)}
            for size in {0, 1, 2, 3, size_of(picture)}:
                for row in itertools.product(alphabet, repeat=min(size, 4)):
                    field = "".join(row)
                    self.assertEqual(reading(picture, field), fields.get(field), (text, field))

    def test_210_none(self):
        cases = [
            ("99", "1"), ("99", "123"), ("99", ""), ("99", " 1"), ("99", "1 "), ("99", "-1"), ("99", "1\u0661"),
            ("99", "\u0661\u0662"), ("99", "\u00b21"), ("s99", "012"), ("s99", " 12"), ("s99", "-00"), ("s99", "12-"),
            ("s9", "-0"), ("zz9", "005"), ("zz9", " 05"), ("zz9", "   "), ("zz9", "5  "), ("**9", "  5"), ("**9", "*05"),
            ("zz9", "**5"), ("z,zz9", "0,005"), ("z,zz9", " ,  5"), ("z,zz9", "1 234"), ("9.9", "1,2"), ("9.9", "1.2 "),
            ("-9", "+5"), ("-9", "-0"), ("+9", " 5"), ("+9", "-0"), ("9-", "0-"), ("9+", "0-"), ("9cr", "5DB"), ("9cr", "0CR"),
            ("9cr", "5cr"), ("9cr", "5C "), ("9db", "5CR"), ("9db", "0DB"), ("9cr", "5"), ("9cr", "5 "), ("9cr", "5++"),
            ("z", "0"), ("*", "0"), ("*", " "), ("9b9", "1b2"), ("9/9", "112"), ("909", "112"),
        ]
        for text, field in cases:
            self.assertIsNone(reading(parse_picture(text), field), (text, field))

    def test_210_holds(self):
        cases = [
            ("x(3)", "abc", True), ("x(3)", "   ", True), ("x(3)", "ab", False), ("x(3)", "abcd", False), ("x(3)", "", False),
            ("x(3)", "a\nb", False), ("x(3)", "a" + chr(37) + "b", False), ("x(3)", "a\u00e4b", False), ("x", "~", True),
            ("x", "\x7f", False), ("x", "0", True), ("99", "07", True), ("99", " 7", False), ("99", "7", False),
            ("s9", "+7", True), ("s9", "-7", True), ("s9", "-0", False), ("s9", "07", False), ("zz9", "  7", True),
            ("zz9", "007", False), ("9cr", "7CR", True), ("9cr", "7  ", True), ("9cr", "7DB", False), ("zz", "  ", True),
            ("99", "00", True), ("zz9", "  0", True),
        ]
        for text, field, answer in cases:
            self.assertIs(holds(parse_picture(text), field), answer, (text, field))

    def test_210_value_of(self):
        cases = [
            ("99", "07", (7, 0)), ("99", "70", (70, 0)), ("s9(3)v99", "-00150", (-15, 1)), ("v99", "50", (5, 1)),
            ("v99", "05", (5, 2)), ("99v99", "0000", (0, 0)), ("s9v9", "+00", (0, 0)), ("zz,zz9.99-", " 1,234.50-", (-12345, 1)),
            ("**9.99cr", "**7.00CR", (-7, 0)), ("zz", "  ", (0, 0)), ("zz", "10", (10, 0)), ("99/99", "12/30", (1230, 0)),
        ]
        for text, field, value in cases:
            self.assertEqual(value_of(parse_picture(text), field), value, (text, field))

    def test_210_value_of_other_texts(self):
        for text, field in [("99", "7"), ("99", " 7"), ("99", ""), ("s9", "-0"), ("zz9", "007"), ("9cr", "7DB"), ("9.9", "9,9"),
                            ("99", "abc"), ("99", "ab")]:
            with self.assertRaises(BadPicture, msg=(text, field)):
                value_of(parse_picture(text), field)

    def test_210_value_of_a_text_picture(self):
        for field in ["123", "abc", "12"]:
            with self.assertRaises(BadPicture):
                value_of(("text", 3), field)


class TestTrimmed(unittest.TestCase):
    def test_211_trimmed(self):
        cases = [
            ("99", 5, 5), ("99", 99, 99), ("99", 100, 0), ("99", 12345, 45), ("99", -12345, 45), ("99", -5, 5), ("99", 0, 0),
            ("s99", -12345, -45), ("s99", 12345, 45), ("s99", -100, 0), ("s99", -99, -99), ("9v9", 1234, 34),
            ("s9v9", -1234, -34), ("v99", 100, 0), ("zz9", 1234, 234), ("zz9", -1234, 234), ("-zz9", -1234, -234),
            ("+z", -19, -9), ("z-", -19, -9), ("z+", -19, -9), ("zcr", -19, -9), ("zdb", -19, -9), ("z0", 123, 3), ("z.9", -123, 23),
            ("9(18)", 10 ** 18 + 7, 7), ("s9(18)", -10 ** 400 - 7, -7), ("s9(18)", 1 - 10 ** 18, 1 - 10 ** 18),
        ]
        for text, units, kept in cases:
            self.assertEqual(trimmed(parse_picture(text), units), kept, (text, units))

    def test_211_trimmed_units_suit(self):
        for text in ["9", "s99", "v9", "zz9.9", "-z", "9cr"]:
            picture = parse_picture(text)
            for units in range(-20500, 20500, 41):
                self.assertTrue(suits(picture, trimmed(picture, units)))
            for units in suiting_units(picture):
                self.assertEqual(trimmed(picture, units), units)


if __name__ == "__main__":
    unittest.main()
