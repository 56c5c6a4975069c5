"""Moving and storing values (points 308 to 310)."""

from cardwright.decimals import units_at
from cardwright.editing import suits, trimmed, value_of, written
from cardwright.pictures import digits_in, is_signed


def can_move(source, target):
    if target[0] == "group":
        return source == target
    if target[0] == "text":
        return source[0] in ("string", "text", "edited", "group") or _is_whole_number(source)
    return source[0] in ("decimal", "number", "edited")


def moved(source, content, target):
    if target[0] == "group":
        return content
    if target[0] == "text":
        text = figures_of(source, content) if source[0] == "number" else content
        return padded(text, target[1])
    value = content if source[0] == "decimal" else value_of(source, content)
    return cut_to(target, value)


def stored(target, value, is_rounded):
    _, fraction = digits_in(target)
    units = units_at(value, fraction, is_rounded)
    return written(target, units) if suits(target, units) else None


def cut_to(target, value):
    _, fraction = digits_in(target)
    return written(target, trimmed(target, units_at(value, fraction, False)))


def padded(text, size):
    return text[:size].ljust(size)


def figures_of(picture, text):
    return text[1:] if is_signed(picture) else text


def _is_whole_number(source):
    return source[0] == "number" and source[3] == 0
