"""Reading entries and files (points 403 to 405)."""

from cardwright.limits import MOST_TIMES
from cardwright.trees import FILE_KINDS


def read_entry(cursor):
    level = cursor.take_level()
    name = cursor.take_name()
    picture = cursor.take_picture() if cursor.accept("picture") else None
    times = cursor.take_integer(least=1, greatest=MOST_TIMES) if cursor.accept("occurs") else 0
    value = _read_value(cursor) if cursor.accept("value") else None
    cursor.expect(".")
    return level, name, picture, times, value


def read_file(cursor):
    kind = cursor.take_one_of(FILE_KINDS)
    name = cursor.take_name()
    cursor.expect("record")
    record = cursor.take_name()
    cursor.expect(".")
    return kind, name, record


def _read_value(cursor):
    return cursor.take_string() if cursor.is_at_string() else cursor.take_decimal()
