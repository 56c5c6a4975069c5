"""The names of a program: items, files and paragraphs (points 501 to 503)."""

from cardwright.errors import BadPart
from cardwright.layout import Layout


class Scope:
    """What the names of a program tree stand for."""

    def __init__(self, program):
        _, entries, files, paragraphs = program
        self.layout = Layout(entries)
        # What each name stands for: an item, a kind of files, or a paragraph.
        self._sorts = {name: "item" for name in self.layout.names()}
        self._places = {}
        self._add_files(files)
        self._add_paragraphs(paragraphs)

    def check_item(self, name):
        if self._sort_of(name) != "item":
            raise BadPart("unknown", name)

    def check_file(self, name, kind):
        if self._sort_of(name) not in ("input", "output"):
            raise BadPart("unknown", name)
        if self._sort_of(name) != kind:
            raise BadPart("file", name)

    def place_of(self, name):
        if name not in self._places:
            raise BadPart("unknown", name)
        return self._places[name]

    def is_within(self, name, outer):
        at = name
        while at not in ("", outer):
            at = self.layout.item(at).parent
        return at == outer

    def is_table(self, name):
        return self.layout.item(name).times > 0 and len(self.layout.dims(name)) == 1

    def _sort_of(self, name):
        return self._sorts.get(name, "")

    def _add_files(self, files):
        records = self.layout.records()
        for kind, name, record in files:
            self._check_new(name)
            if record not in records:
                raise BadPart("record", record)
            self._sorts[name] = kind

    def _add_paragraphs(self, paragraphs):
        for at, (name, _) in enumerate(paragraphs):
            self._check_new(name)
            self._sorts[name] = "paragraph"
            self._places[name] = at

    def _check_new(self, name):
        if name in self._sorts:
            raise BadPart("name", name)
