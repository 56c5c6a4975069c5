"""Reading programs (points 400 to 408)."""

from cardwright.datatext import read_entry, read_file
from cardwright.sentences import read_statements
from cardwright.tokens import Cursor
from cardwright.trees import FILE_KINDS
from cardwright.words import are_figures


def parse(text):
    cursor = Cursor(text)
    cursor.expect("program")
    name = cursor.take_name()
    cursor.expect(".", "data", ".")
    entries = _read_entries(cursor)
    cursor.expect("files", ".")
    files = _read_files(cursor)
    cursor.expect("procedure", ".")
    return name, entries, files, _read_paragraphs(cursor)


def _read_entries(cursor):
    entries = []
    # A word of figures can only be a level here, even if it is a wrong one.
    while are_figures(cursor.peek()):
        entries.append(read_entry(cursor))
    return tuple(entries)


def _read_files(cursor):
    files = []
    while cursor.peek() in FILE_KINDS:
        files.append(read_file(cursor))
    return tuple(files)


def _read_paragraphs(cursor):
    paragraphs = [_read_paragraph(cursor)]
    while not cursor.is_done():
        paragraphs.append(_read_paragraph(cursor))
    return tuple(paragraphs)


def _read_paragraph(cursor):
    name = cursor.take_name()
    cursor.expect(".")
    return name, read_statements(cursor, 1)
