"""The files of a run: lines that are read, written and shown (points 602, 611 and 612)."""

from cardwright.moves import padded
from cardwright.storage import record_holds


class Files:
    """The input lines that are left, and the lines that were written and shown."""

    def __init__(self, files, lines):
        self.shown = []
        self._records = {name: record for _, name, record in files}
        self._lines = {name: lines.get(name, ()) for kind, name, _ in files if kind == "input"}
        self._places = {name: 0 for name in self._lines}
        self._written = {name: [] for kind, name, _ in files if kind == "output"}

    def read(self, name, size, cells):
        place = self._places[name]
        if place == len(self._lines[name]):
            return "end", ""
        self._places[name] = place + 1
        line = self._lines[name][place]
        # Padding would cut a longer line off.
        if len(line) > size or not record_holds(size, cells, padded(line, size)):
            return "bad", ""
        return "line", padded(line, size)

    def write(self, name, text):
        self._written[name].append(text)

    def show(self, text):
        self.shown.append(text)

    def record_of(self, name):
        return self._records[name]

    def outputs(self):
        return tuple([(name, tuple(lines)) for name, lines in self._written.items()])
