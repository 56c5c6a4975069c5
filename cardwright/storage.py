"""The storage of a run (point 307)."""

from cardwright.editing import holds
from cardwright.pictures import size_of


class Storage:
    """The characters of the storage; texts are put over them."""

    def __init__(self, text):
        self._characters = list(text)

    def read(self, offset, size):
        return "".join(self._characters[offset:offset + size])

    def write(self, offset, text):
        self._characters[offset:offset + len(text)] = list(text)

    def text(self):
        return "".join(self._characters)


def record_holds(size, cells, text):
    if len(text) != size:
        return False
    return all([holds(picture, text[offset:offset + size_of(picture)]) for offset, picture in cells])
