import itertools
import re
import unittest

from cardwright.errors import BadPicture
from cardwright.pictures import digits_in, is_picture, is_signed, parse_picture, picture_text, size_of

INSERTED = ",b0/"
BODY = re.compile(r"(?=[z*9])(?:[z,b0/]*|[*,b0/]*)[9,b0/]*(?:\.9+)?")
NUMBER = re.compile(r"(s?)(9*)(?:v(9+))?")

GOOD = [
    ("x", ("text", 1)),
    ("xxx", ("text", 3)),
    ("x(3)", ("text", 3)),
    ("x(2)xx(3)", ("text", 6)),
    ("x(80)", ("text", 80)),
    ("x(79)x", ("text", 80)),
    ("9", ("number", False, 1, 0)),
    ("s9", ("number", True, 1, 0)),
    ("s(1)9", ("number", True, 1, 0)),
    ("v9", ("number", False, 0, 1)),
    ("sv9", ("number", True, 0, 1)),
    ("v(1)9(2)", ("number", False, 0, 2)),
    ("s9(3)v99", ("number", True, 3, 2)),
    ("99v9", ("number", False, 2, 1)),
    ("9(18)", ("number", False, 18, 0)),
    ("v9(18)", ("number", False, 0, 18)),
    ("s9(9)v9(9)", ("number", True, 9, 9)),
    ("s9(17)v9", ("number", True, 17, 1)),
    ("z", ("edited", "z", 1, 0, "")),
    ("*", ("edited", "*", 1, 0, "")),
    ("z(3)", ("edited", "zzz", 3, 0, "")),
    ("*(2)9", ("edited", "**9", 3, 0, "")),
    ("z9", ("edited", "z9", 2, 0, "")),
    ("9.9", ("edited", "9.9", 1, 1, "")),
    ("9,9", ("edited", "9,9", 2, 0, "")),
    ("9b", ("edited", "9b", 1, 0, "")),
    ("90", ("edited", "90", 1, 0, "")),
    ("9/9", ("edited", "9/9", 2, 0, "")),
    ("9,b0/", ("edited", "9,b0/", 1, 0, "")),
    ("9,(2)9", ("edited", "9,,9", 2, 0, "")),
    ("9.(1)9(3)", ("edited", "9.999", 1, 3, "")),
    ("z,z,9,9.9", ("edited", "z,z,9,9.9", 4, 1, "")),
    ("zz,zz9.99-", ("edited", "zz,zz9.99", 5, 2, ".-")),
    ("**,**9.99cr", ("edited", "**,**9.99", 5, 2, "cr")),
    ("z.9", ("edited", "z.9", 1, 1, "")),
    ("*,.9", ("edited", "*,.9", 1, 1, "")),
    ("-9", ("edited", "9", 1, 0, "-")),
    ("+9", ("edited", "9", 1, 0, "+")),
    ("9-", ("edited", "9", 1, 0, ".-")),
    ("9+", ("edited", "9", 1, 0, ".+")),
    ("9cr", ("edited", "9", 1, 0, "cr")),
    ("9db", ("edited", "9", 1, 0, "db")),
    ("9bdb", ("edited", "9b", 1, 0, "db")),
    ("-(1)z(2)", ("edited", "zz", 2, 0, "-")),
    ("9c(1)r(1)", ("edited", "9", 1, 0, "cr")),
    ("9d(1)b", ("edited", "9", 1, 0, "db")),
    ("9+(1)", ("edited", "9", 1, 0, ".+")),
    ("z(18)", ("edited", "z" * 18, 18, 0, "")),
    ("z(9)9(9)-", ("edited", "z" * 9 + "9" * 9, 18, 0, ".-")),
    ("9(9).9(9)", ("edited", "9" * 9 + "." + "9" * 9, 9, 9, "")),
    ("-9(18)", ("edited", "9" * 18, 18, 0, "-")),
    ("9b(79)", ("edited", "9" + "b" * 79, 1, 0, "")),
    ("9b(78)-", ("edited", "9" + "b" * 78, 1, 0, ".-")),
    ("+9b(78)", ("edited", "9" + "b" * 78, 1, 0, "+")),
    ("9b(77)cr", ("edited", "9" + "b" * 77, 1, 0, "cr")),
    ("z0(40)z", ("edited", "z" + "0" * 40 + "z", 2, 0, "")),
]

BAD = [
    "", " ", "x ", " x", "X", "Z", "S9", "a", "x9", "9x", "xz", "x-", "sx",
    # counts
    "x(0)", "x(00)", "x(01)", "x(05)", "x(100)", "x()", "x(", "x)", "x(3", "x(12", "x(123", "x3)", "x(" + "9" * 30 + ")", "x(" + "9" * 5000 + ")", "(3)", "(3)x", "x(2)(3)",
    "x((2))", "x(-1)", "x(+1)", "x( 1)", "x(1 )", "x(1.0)", "x(a)", "x(\u0661)", "x(3)y", "9(2)(", "9)2(",
    # sizes
    "x(81)", "x(80)x", "x(99)", "9b(80)", "9b(79)-", "-9b(79)", "9b(78)cr", "9b(78)db", "x" * 81, "x" * 5000,
    # number pictures
    "s", "v", "sv", "9v", "s9v", "s(2)9", "ss9", "9s", "9s9", "9v9v9", "9v(2)9", "v9v", "9(19)", "s9(10)v9(9)",
    "v9(19)", "9v9.9", "9.9v9", "s9.9", "sz9", "9vz", "s-9", "-s9", "s9-", "v9+", "z9v9",
    # bodies: the first mark
    ",9", "b9", "09", "/9", ".9", ",z9", "0", ",", "b", "/", ".", "-,9", "-.9",
    # bodies: the point
    "9.", "z.", "9.9.9", "9..9", "9.(2)9", "9.z", "9.*", "9.9z", "9.,9", "9.9,9", "9.9b", "9.90", "9.9/", "z.z", "*.*",
    # bodies: ahead of the point
    "9z", "9*", "z*", "*z", "zz*9", "z9z", "*9*", "z9z.9", "9,z", "z,*", "*b9,z",
    # digits
    "z(19)", "9(10).9(9)", "*(10)9(9)", "-9(19)", "z(18).9", "9(19)-",
    # signs
    "-", "+", "cr", "db", "--9", "-9-", "+9+", "-9+", "+9-", "9--", "9(2)-(2)", "-9cr", "+9db", "9crcr", "9crdb",
    "9cr-", "9rc", "9c", "9r", "9d", "9bd", "c9r", "cr9", "db9", "9c(2)r", "9cr(2)", "9CR", "9DB", "-+9", "9-+",
]

NEAR = [
    None, True, 0, 3, 1.5, "", "x", "x(3)", "text", b"x", [], (), {}, set(), object(), len, ("text",), ("number",),
    ("edited",), ("text", 0), ("text", -1), ("text", 81), ("text", True), ("text", 3.0), ("text", "3"), ("text", None),
    ("text", [3]), ("text", 3, 0), ["text", 3], ("Text", 3), (b"text", 3), ("group", 3), ("group", ()), ("string",),
    ("decimal",), (3, "text"), (["text"], 3), (("text", 3),), ("text", (3,)),
    ("number", True, 3), ("number", True, 3, 2, 0), ["number", True, 3, 2], ("number", 1, 3, 2), ("number", 0, 3, 2),
    ("number", None, 3, 2), ("number", "s", 3, 2), ("number", True, 0, 0), ("number", False, 18, 1),
    ("number", False, 19, 0), ("number", False, 0, 19), ("number", False, -1, 2), ("number", False, 2, -1),
    ("number", False, 20, -2), ("number", False, -2, 20),
    ("number", False, True, 0), ("number", False, 1, True), ("number", False, 1, False), ("number", False, 1.0, 0),
    ("number", False, 1, 0.0), ("number", False, "1", 0), ("number", False, None, 1), ("number", False, [1], 0),
    ("edited", "z9", 2, 0), ("edited", "z9", 2, 0, "", ""), ["edited", "z9", 2, 0, ""], ("edited", "z9", 1, 0, ""),
    ("edited", "z9", 2, 1, ""), ("edited", "z9", 1, 1, ""), ("edited", "z9", 2.0, 0, ""), ("edited", "z9", 2, 0.0, ""),
    ("edited", "z9", 2, False, ""), ("edited", "z", True, 0, ""), ("edited", "z9", "2", 0, ""),
    ("edited", "z9", None, 0, ""), ("edited", "9", 1, 0, ""), ("edited", "9(2)", 2, 0, "-"), ("edited", "z(2)", 2, 0, ""),
    ("edited", "-9", 1, 0, ""), ("edited", "9-", 1, 0, ""), ("edited", "9cr", 1, 0, ""), ("edited", "", 0, 0, ""),
    ("edited", "", 0, 0, "-"), ("edited", "z9", 2, 0, "--"), ("edited", "z9", 2, 0, "."), ("edited", "z9", 2, 0, "CR"),
    ("edited", "z9", 2, 0, "-."), ("edited", "z9", 2, 0, ".cr"), ("edited", "z9", 2, 0, "c"), ("edited", "z9", 2, 0, None),
    ("edited", "z9", 2, 0, ["-"]), ("edited", "z9", 2, 0, True), ("edited", ["z", "9"], 2, 0, ""),
    ("edited", ("z", "9"), 2, 0, ""), ("edited", None, 2, 0, ""), ("edited", b"z9", 2, 0, ""), ("edited", 99, 2, 0, ""),
    ("edited", "9z", 2, 0, ""), ("edited", ".9", 0, 1, ""), ("edited", "9.", 1, 0, ""), ("edited", ",9", 1, 0, ""),
    ("edited", "z" * 19, 19, 0, ""), ("edited", "9" * 10 + "." + "9" * 9, 10, 9, ""), ("edited", "s9", 1, 0, ""),
    ("edited", "9v9", 1, 1, ""), ("edited", "x", 1, 0, ""), ("edited", "9" + "b" * 80, 1, 0, ""),
    ("edited", "9" + "b" * 79, 1, 0, "-"), ("edited", "9" + "b" * 79, 1, 0, ".+"), ("edited", "9" + "b" * 78, 1, 0, "cr"),
    ("edited", "9" + "b" * 78, 1, 0, "db"), ("edited", "9.9.9", 1, 2, ""), ("edited", "9.9,", 1, 1, ""),
]


class Stubborn:
    """A value that cannot be compared."""

    def __eq__(self, other):
        raise RuntimeError("compared")

    __hash__ = None


def expected_picture(row):
    """Describe a row of marks in another way than the program does."""
    if re.fullmatch("x+", row):
        return ("text", len(row))
    number = NUMBER.fullmatch(row)
    if number and "9" in row:
        return ("number", number[1] == "s", len(number[2]), len(number[3] or ""))
    for sign, ahead, behind in [("-", "-", ""), ("+", "+", ""), (".-", "", "-"), (".+", "", "+"), ("cr", "", "cr"),
                                ("db", "", "db"), ("", "", "")]:
        if row.startswith(ahead) and row.endswith(behind):
            body = row[len(ahead):len(row) - len(behind)]
            if BODY.fullmatch(body):
                whole, _, fraction = body.partition(".")
                return ("edited", body, len([c for c in whole if c in "z*9"]), len(fraction), sign)
    return None


class TestParsing(unittest.TestCase):
    def test_201_to_205_good_ones(self):
        for text, picture in GOOD:
            found = parse_picture(text)
            self.assertEqual(found, picture, text)
            self.assertEqual([type(part) for part in found], [type(part) for part in picture], text)

    def test_201_to_205_bad_ones(self):
        for text in BAD:
            with self.assertRaises(BadPicture, msg=repr(text)):
                parse_picture(text)

    def test_201_every_count(self):
        for count in range(1, 81):
            self.assertEqual(parse_picture(f"x({count})"), ("text", count))
        for count in range(1, 19):
            self.assertEqual(parse_picture(f"9({count})"), ("number", False, count, 0))
            self.assertEqual(parse_picture(f"z({count})-"), ("edited", "z" * count, count, 0, ".-"))
            self.assertEqual(parse_picture("9" * count), parse_picture(f"9({count})"))

    def test_201_to_205_all_short_rows(self):
        for length in range(1, 5):
            for row in itertools.product("xsv9z*,b0/.-+cdr", repeat=length):
                text = "".join(row)
                expected = expected_picture(text)
                if expected is None:
                    with self.assertRaises(BadPicture, msg=text):
                        parse_picture(text)
                else:
                    self.assertEqual(parse_picture(text), expected, text)

    def test_204_all_short_bodies_with_signs(self):
        for row in itertools.product("z*9,.", repeat=5):
            for text in ["".join(row), "-" + "".join(row), "".join(row) + "db"]:
                expected = expected_picture(text)
                if expected is None:
                    with self.assertRaises(BadPicture, msg=text):
                        parse_picture(text)
                else:
                    self.assertEqual(parse_picture(text), expected, text)


class TestTexts(unittest.TestCase):
    def test_206_picture_text(self):
        cases = [
            (("text", 1), "x(1)"), (("text", 80), "x(80)"), (("number", False, 1, 0), "9(1)"),
            (("number", True, 18, 0), "s9(18)"), (("number", True, 0, 3), "sv9(3)"), (("number", False, 0, 18), "v9(18)"),
            (("number", True, 3, 2), "s9(3)v9(2)"), (("number", False, 12, 6), "9(12)v9(6)"),
            (("edited", "zz9", 3, 0, ""), "zz9"), (("edited", "zz9", 3, 0, "-"), "-zz9"),
            (("edited", "zz9", 3, 0, "+"), "+zz9"), (("edited", "zz9", 3, 0, ".-"), "zz9-"),
            (("edited", "zz9", 3, 0, ".+"), "zz9+"), (("edited", "zz9", 3, 0, "cr"), "zz9cr"),
            (("edited", "zz9b", 3, 0, "db"), "zz9bdb"), (("edited", "z,9.99", 2, 2, ".-"), "z,9.99-"),
        ]
        for picture, text in cases:
            self.assertEqual(picture_text(picture), text)

    def test_206_reading_gives_the_same_picture(self):
        for _, picture in GOOD:
            self.assertEqual(parse_picture(picture_text(picture)), picture)

    def test_206_written_out_and_counted(self):
        for text in ["x(3)", "s9(3)v9(2)", "9(12)v9(6)", "v9(1)", "zz,zz9.99-", "-zz9", "**9cr"]:
            self.assertEqual(picture_text(parse_picture(text)), text)


class TestAnswers(unittest.TestCase):
    def test_205_size_of(self):
        cases = [
            ("x", 1), ("x(80)", 80), ("9", 1), ("s9", 2), ("s9(18)", 19), ("s9(3)v99", 6), ("v99", 2), ("sv9", 2),
            ("zz9", 3), ("zz9.99", 6), ("-zz9.99", 7), ("+zz9", 4), ("zz9-", 4), ("zz9+", 4), ("zz9cr", 5), ("zz9db", 5),
            ("9b0/,9", 6), ("9b(77)cr", 80), ("9b(78)-", 80), ("9b(79)", 80),
        ]
        for text, size in cases:
            self.assertEqual(size_of(parse_picture(text)), size, text)

    def test_207_is_signed(self):
        cases = [
            ("x", False), ("9", False), ("s9", True), ("99v9", False), ("sv9", True), ("zz9", False), ("-9", True),
            ("+9", True), ("9-", True), ("9+", True), ("9cr", True), ("9db", True), ("9.9", False),
        ]
        for text, answer in cases:
            self.assertIs(is_signed(parse_picture(text)), answer, text)

    def test_205_digits_in(self):
        cases = [
            ("9", (1, 0)), ("s9(3)v99", (3, 2)), ("v9(18)", (0, 18)), ("zz,zz9.99-", (5, 2)), ("*(18)", (18, 0)),
            ("90b9", (2, 0)), ("9.99", (1, 2)),
        ]
        for text, digits in cases:
            self.assertEqual(digits_in(parse_picture(text)), digits, text)

    def test_205_digits_in_of_a_text_picture(self):
        for size in (1, 3, 80):
            with self.assertRaises(BadPicture):
                digits_in(("text", size))

    def test_206_is_picture(self):
        for _, picture in GOOD:
            self.assertIs(is_picture(picture), True, picture)

    def test_206_is_picture_of_values_near(self):
        for value in NEAR:
            self.assertIs(is_picture(value), False, value)

    def test_206_is_picture_of_any_value(self):
        odd = Stubborn()
        for value in [odd, (odd,), (odd, 3), ("text", odd), ("number", odd, 1, 1), ("number", True, odd, 1),
                      ("number", True, 1, odd), ("edited", odd, 1, 0, ""), ("edited", "z", odd, 0, ""),
                      ("edited", "z", 1, odd, ""), ("edited", "z", 1, 0, odd)]:
            self.assertIs(is_picture(value), False)

    def test_206_is_picture_of_all_small_edited_ones(self):
        for length in range(0, 4):
            for marks in itertools.product("z*9,.-s", repeat=length):
                for whole, fraction in itertools.product(range(4), repeat=2):
                    for sign, text in [("", "{}"), ("-", "-{}"), (".+", "{}+"), ("cr", "{}cr")]:
                        body = "".join(marks)
                        value = ("edited", body, whole, fraction, sign)
                        self.assertIs(is_picture(value), expected_picture(text.format(body)) == value, value)

    def test_206_is_picture_of_all_number_pictures(self):
        for whole in range(-1, 21):
            for fraction in range(-1, 21):
                expected = whole >= 0 and fraction >= 0 and 1 <= whole + fraction <= 18
                for signed in (True, False):
                    self.assertIs(is_picture(("number", signed, whole, fraction)), expected)

    def test_206_is_picture_of_all_text_pictures(self):
        for size in range(-3, 120):
            self.assertIs(is_picture(("text", size)), 1 <= size <= 80)


if __name__ == "__main__":
    unittest.main()
