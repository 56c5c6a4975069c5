"""Writing values into fields and reading them again (points 207 to 211)."""

from cardwright.decimals import fits, normal, power
from cardwright.errors import BadPicture
from cardwright.pictures import digits_in, is_signed, size_of
from cardwright.words import FIGURES, is_printable

DIGIT_MARKS = ("z", "*", "9")
HIDING_MARKS = ("z", "*")
INSERTED_CHARACTERS = {",": ",", "b": " ", "0": "0", "/": "/"}
NEGATIVE_SIGNS = ("-", "CR", "DB")


def suits(picture, units):
    if not fits(units, _many_digits(picture)):
        return False
    return units >= 0 or is_signed(picture)


def written(picture, units):
    if not suits(picture, units):
        raise BadPicture("the units do not suit the picture")
    figures = str(abs(units)).zfill(_many_digits(picture))
    sign = _sign_text(_sign_of(picture), units < 0)
    if picture[0] == "number":
        return sign + figures
    body = _body_text(picture[1], figures)
    return sign + body if _is_sign_ahead(picture) else body + sign


def reading(picture, text):
    if len(text) != size_of(picture):
        return None
    units = _likely_units(picture, text)
    # No other units can have the text; whether these have it, writing them tells.
    return units if written(picture, units) == text else None


def holds(picture, text):
    if picture[0] == "text":
        return len(text) == size_of(picture) and is_printable(text)
    return reading(picture, text) is not None


def value_of(picture, text):
    _, fraction = digits_in(picture)
    units = reading(picture, text)
    if units is None:
        raise BadPicture("no units have the text")
    return normal(units, fraction)


def trimmed(picture, units):
    kept = abs(units) % power(_many_digits(picture))
    return -kept if units < 0 and is_signed(picture) else kept


def _many_digits(picture):
    whole, fraction = digits_in(picture)
    return whole + fraction


def _sign_of(picture):
    """Return the sign, as in an edited picture."""
    if picture[0] == "edited":
        return picture[4]
    return "+" if is_signed(picture) else ""


def _is_sign_ahead(picture):
    return _sign_of(picture) in ("-", "+")


def _sign_text(sign, is_negative):
    if sign in ("cr", "db"):
        return sign.upper() if is_negative else "  "
    if sign == "":
        return ""
    if is_negative:
        return "-"
    return "+" if sign in ("+", ".+") else " "


def _body_text(marks, figures):
    filler = "*" if marks[0] == "*" else " "
    is_hiding = marks[0] in HIDING_MARKS
    characters = []
    at = 0
    for mark in marks:
        if mark in DIGIT_MARKS:
            is_hiding = is_hiding and mark in HIDING_MARKS and figures[at] == "0"
            character = figures[at]
            at = at + 1
        elif mark == ".":
            is_hiding = False
            character = "."
        else:
            character = INSERTED_CHARACTERS[mark]
        characters.append(filler if is_hiding else character)
    return "".join(characters)


def _likely_units(picture, text):
    """Return the only units that may have the text, which has the size of the picture."""
    sign, body = _sign_and_body(picture, text)
    marks = picture[1] if picture[0] == "edited" else "9" * len(body)
    digits = [character for mark, character in zip(marks, body) if mark in DIGIT_MARKS]
    # A digit that is hidden is 0.
    units = int("".join([character if character in FIGURES else "0" for character in digits]))
    return -units if sign in NEGATIVE_SIGNS else units


def _sign_and_body(picture, text):
    if _is_sign_ahead(picture):
        return text[:1], text[1:]
    many = len(picture[1]) if picture[0] == "edited" else len(text)
    return text[many:], text[:many]
