"""Pictures: what a field may hold (points 200 to 206)."""

from cardwright.errors import BadPicture
from cardwright.limits import MOST_DIGITS, MOST_TEXT
from cardwright.words import are_figures, is_integer

INSERTED = (",", "b", "0", "/")
SIGNS = ("", "-", "+", ".-", ".+", "cr", "db")


def parse_picture(text):
    row = _spread(text)
    if not 1 <= len(row) <= MOST_TEXT:
        raise BadPicture("too few or too many marks")
    if _are_all(row, "x"):
        return "text", len(row)
    picture = _number_picture(row)
    if picture is None:
        body, sign = _parted(row)
        picture = _edited_picture(body, sign)
    if picture is None:
        raise BadPicture("not a picture")
    return picture


def picture_text(picture):
    if picture[0] == "text":
        return f"x({picture[1]})"
    if picture[0] == "number":
        return _number_text(picture)
    marks = picture[1]
    sign = picture[4]
    if sign in ("-", "+"):
        return sign + marks
    return marks + _sign_marks(sign)


def size_of(picture):
    if picture[0] == "text":
        return picture[1]
    if picture[0] == "number":
        _, signed, whole, fraction = picture
        return whole + fraction + (1 if signed else 0)
    return len(picture[1]) + len(_sign_marks(picture[4]))


def is_signed(picture):
    if picture[0] == "text":
        return False
    if picture[0] == "number":
        return picture[1]
    return picture[4] != ""


def digits_in(picture):
    if picture[0] == "text":
        raise BadPicture("a text picture has no digits")
    return picture[2], picture[3]


def is_picture(value):
    if not isinstance(value, tuple) or len(value) == 0 or not isinstance(value[0], str):
        return False
    if value[0] == "text":
        return len(value) == 2 and is_integer(value[1], 1, MOST_TEXT)
    if value[0] == "number":
        return len(value) == 4 and _is_number_picture(value)
    return value[0] == "edited" and len(value) == 5 and _is_edited_picture(value)


def _is_number_picture(value):
    _, signed, whole, fraction = value
    if not isinstance(signed, bool) or not _are_digits(whole, fraction):
        return False
    return 1 <= whole + fraction <= MOST_DIGITS


def _is_edited_picture(value):
    _, marks, whole, fraction, sign = value
    if not isinstance(marks, str) or not isinstance(sign, str) or sign not in SIGNS:
        return False
    # Numbers are looked at ahead of ==, which takes True for 1 and 2.0 for 2.
    if not _are_digits(whole, fraction) or size_of(value) > MOST_TEXT:
        return False
    return value == _edited_picture(marks, sign)


def _are_digits(whole, fraction):
    return is_integer(whole, 0, MOST_DIGITS) and is_integer(fraction, 0, MOST_DIGITS)


def _spread(text):
    marks = []
    at = 0
    while at < len(text):
        count, behind = _count_at(text, at + 1)
        marks.append(text[at] * count)
        at = behind
    return "".join(marks)


def _count_at(text, at):
    """Return the count that stands at a place, or 1, and the place behind it."""
    if text[at:at + 1] != "(":
        return 1, at
    end = text.find(")", at)
    count = text[at + 1:end]
    if end < 0 or not are_figures(count) or len(count) > 2 or count[0] == "0":
        raise BadPicture("not a count")
    return int(count), end + 1


def _number_picture(row):
    """Return the number picture with these marks, or None."""
    signed = row.startswith("s")
    whole, point, fraction = (row[1:] if signed else row).partition("v")
    if point != "" and fraction == "":
        return None
    if not _are_all(whole + fraction, "9") or not 1 <= len(whole + fraction) <= MOST_DIGITS:
        return None
    return "number", signed, len(whole), len(fraction)


def _number_text(picture):
    _, signed, whole, fraction = picture
    parts = ["s"] if signed else []
    if whole != 0:
        parts.append(f"9({whole})")
    if fraction != 0:
        parts.append(f"v9({fraction})")
    return "".join(parts)


def _parted(row):
    """Return the body and the sign of a row of marks."""
    if row[0] in ("-", "+"):
        return row[1:], row[0]
    if row[-1] in ("-", "+"):
        return row[:-1], "." + row[-1]
    if row[-2:] in ("cr", "db"):
        return row[:-2], row[-2:]
    return row, ""


def _edited_picture(marks, sign):
    """Return the edited picture with this body and sign, or None."""
    ahead, point, behind = marks.partition(".")
    digits = "".join([mark for mark in ahead if mark not in INSERTED])
    if marks[:1] not in ("z", "*", "9") or not _are_all(_without_hidden(digits), "9"):
        return None
    if not _are_all(behind, "9") or (point != "" and behind == ""):
        return None
    if len(digits) + len(behind) > MOST_DIGITS:
        return None
    # Such a row is a number picture.
    if sign == "" and _are_all(marks, "9"):
        return None
    return "edited", marks, len(digits), len(behind), sign


def _without_hidden(digits):
    return digits.lstrip("z") if digits.startswith("z") else digits.lstrip("*")


def _sign_marks(sign):
    # The point of a sign only stands for the body.
    return sign.replace(".", "")


def _are_all(row, mark):
    return row == mark * len(row)
