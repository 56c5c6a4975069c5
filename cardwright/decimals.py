"""Exact decimals: tuples of units and a scale (points 104 to 107)."""

from cardwright.errors import BadDecimal
from cardwright.limits import MOST_DIGITS
from cardwright.words import are_figures

PART_FIGURES = 18
PART = 1_000_000_000_000_000_000


def power(exponent):
    result = 1
    factor = 10
    rest = exponent
    while rest > 0:
        if rest % 2 == 1:
            result = result * factor
        factor = factor * factor
        rest = rest // 2
    return result


def normal(units, scale):
    while scale > 0 and units % 10 == 0:
        units = units // 10
        scale = scale - 1
    return units, scale


def aligned(a, scale):
    units, own = a
    return units * power(scale - own)


def add(a, b):
    scale = max(a[1], b[1])
    return normal(aligned(a, scale) + aligned(b, scale), scale)


def subtract(a, b):
    return add(a, negative(b))


def multiply(a, b):
    return normal(a[0] * b[0], a[1] + b[1])


def negative(a):
    units, scale = a
    return -units, scale


def compare(a, b):
    scale = max(a[1], b[1])
    difference = aligned(a, scale) - aligned(b, scale)
    if difference < 0:
        return -1
    return 1 if difference > 0 else 0


def quotient(above, below, is_rounded):
    # The sizes are divided without signs, because // alone goes down and not to 0.
    size, rest = divmod(abs(above), abs(below))
    if is_rounded and 2 * rest >= abs(below):
        size = size + 1
    return -size if (above < 0) != (below < 0) else size


def units_at(a, scale, is_rounded):
    units, own = a
    if scale >= own:
        return aligned(a, scale)
    return quotient(units, power(own - scale), is_rounded)


def divide(a, b, scale, is_rounded):
    if b[0] == 0:
        raise BadDecimal("divided by 0")
    return quotient(a[0] * power(b[1] + scale), b[0] * power(a[1]), is_rounded)


def fits(units, digits):
    return abs(units) < power(digits)


def show(a):
    units, scale = a
    sign = "-" if units < 0 else ""
    figures = _figures(abs(units)).zfill(scale + 1)
    if scale == 0:
        return sign + figures
    return sign + figures[:-scale] + "." + figures[-scale:]


def _figures(units):
    # Python refuses to turn an integer of some thousand figures into a string at once.
    parts = []
    while units >= PART:
        units, part = divmod(units, PART)
        parts.append(str(part).zfill(PART_FIGURES))
    parts.append(str(units))
    return "".join(reversed(parts))


def parse(text):
    figures = text[1:] if text.startswith("-") else text
    whole, point, fraction = figures.partition(".")
    if not _is_whole(whole) or (point != "" and not are_figures(fraction)):
        raise BadDecimal("not a decimal")
    if len(whole) + len(fraction) > MOST_DIGITS:
        raise BadDecimal("too many figures")
    units = int(whole + fraction)
    return normal(units if figures == text else -units, len(fraction))


def _is_whole(text):
    return are_figures(text) and (text == "0" or text[0] != "0")
