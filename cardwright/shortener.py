"""The shortener: code with fewer instructions and the same runs (points 802 and 803)."""

from cardwright.code import MOST_SIZE
from cardwright.editing import trimmed
from cardwright.flow import JUMPS, last_places, reached
from cardwright.meaning import order_of


def shorten(code):
    known = code
    shorter = _shortened_once(known)
    # Whatever is taken away may bring others together, and make a way vanish.
    while shorter.length() < known.length():
        known = shorter
        shorter = _shortened_once(known)
    return shorter


class Rows:
    """The instructions that are kept, and to which place each former one went."""

    def __init__(self):
        self._rows = []
        # Whether a jump or a paragraph begins at each of the rows, and at the one that comes next.
        self._are_entries = []
        self._is_next_entry = False
        self._places = []

    def leave_out(self):
        # What led to it goes on at the row that comes next. That of a jump to the next place is an entry anyway.
        self._places.append(len(self._rows))

    def add_row(self, instruction, is_entry):
        self._places.append(len(self._rows))
        is_next_entry = self._is_next_entry or is_entry
        joined = None
        if self._rows and not is_next_entry:
            joined = _joined(self._rows[-1], instruction)
        if joined is None:
            self._put(instruction, is_next_entry)
            return
        self._rows.pop()
        self._is_next_entry = self._are_entries.pop()
        for row in joined:
            self._put(row, self._is_next_entry)

    def place_of(self, former):
        return self._places[former] if former < len(self._places) else len(self._rows)

    def finished(self):
        return [(row[0], self.place_of(row[1])) if row[0] in JUMPS else row for row in self._rows]

    def _put(self, instruction, is_entry):
        self._rows.append(instruction)
        self._are_entries.append(is_entry)
        self._is_next_entry = False


def _shortened_once(code):
    found = reached(code.starts, code.instructions)
    entries = _entries_of(code, found)
    lasts = last_places(code.starts, code.length())
    rows = Rows()
    for place, instruction in enumerate(code.instructions):
        if place not in lasts and (place not in found or instruction == ("jump", place + 1)):
            rows.leave_out()
        else:
            rows.add_row(instruction, place in entries)
    return code.with_instructions([rows.place_of(start) for start in code.starts], rows.finished())


def _entries_of(code, found):
    """Return a dict whose keys are the places where a jump that is come by, or a paragraph, begins."""
    entries = {start: True for start in code.starts}
    for place in found:
        instruction = code.instructions[place]
        if instruction[0] in JUMPS:
            entries[instruction[1]] = True
    return entries


def _joined(first, second):
    """Return the tuple of one or no instructions that do what two of them do, or None if there is no such tuple."""
    if first[0] == "step" and second[0] == "step":
        many = first[1] + second[1]
        return (("step", many),) if many <= MOST_SIZE else None
    return _joined_to_number(first[1], second) if first[0] == "push" else None


def _joined_to_number(number, second):
    kind = second[0]
    if kind == "drop":
        return ()
    if kind == "zero":
        return (("jump", second[1]),) if number == 0 else ()
    if kind == "negate":
        return (("push", -number),)
    if kind == "test":
        return (("push", 1 if order_of(second[1], number) else 0),)
    if kind == "trim":
        return (("push", trimmed(second[1], number)),)
    return None
