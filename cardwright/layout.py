"""The layout of the data of a program (points 300 to 306)."""

from cardwright.decimals import aligned
from cardwright.editing import suits, written
from cardwright.errors import BadData
from cardwright.limits import MOST_STORAGE
from cardwright.moves import padded
from cardwright.pictures import digits_in, size_of

MOST_DIMENSIONS = 2


class Item:
    """An entry with its place in the storage and in the tree."""

    def __init__(self, entry, parent):
        _, name, picture, times, value = entry
        self.name = name
        self.picture = picture
        self.times = times
        self.value = value
        self.parent = parent
        self.offset = 0
        self.size = 0 if picture is None else size_of(picture)
        self.children = []


class Layout:
    """The items of a row of entries."""

    def __init__(self, entries):
        self._items = _items_of(list(entries))
        _add_sizes(self._items)
        self._size = _add_offsets(self._items)
        if self._size > MOST_STORAGE:
            raise BadData("size", "")

    def size(self):
        return self._size

    def names(self):
        return list(self._items)

    def records(self):
        return [name for name, item in self._items.items() if item.parent == ""]

    def item(self, name):
        if name not in self._items:
            raise BadData("missing", name)
        return self._items[name]

    def kind(self, name):
        item = self.item(name)
        return "group" if item.picture is None else item.picture[0]

    def dims(self, name):
        dims = []
        item = self.item(name)
        while item is not None:
            if item.times > 0:
                dims.append((item.times, item.size))
            item = self._items.get(item.parent)
        return tuple(reversed(dims))

    def cells(self, name):
        item = self.item(name)
        if item.picture is not None:
            return [(0, item.picture)]
        cells = []
        start = 0
        for child_name in item.children:
            child = self.item(child_name)
            inner = self.cells(child_name)
            for _ in range(_times_of(child)):
                cells.extend([(start + offset, picture) for offset, picture in inner])
                start = start + child.size
        return cells

    def shape(self, name):
        return tuple([picture for _, picture in self.cells(name)])

    def first_text(self, name):
        item = self.item(name)
        if item.picture is not None:
            return _first_text_of_field(item.picture, item.value)
        return "".join([self.first_text(child) * _times_of(self.item(child)) for child in item.children])

    def first_storage(self):
        return "".join([self.first_text(name) for name in self.records()])


def _items_of(entries):
    """Return the items by their names, without the sizes of groups and without offsets."""
    items = {}
    # The entry before and all that it lies in, the outermost first.
    path = []
    for at, entry in enumerate(entries):
        outer = [other for other in path if other[0] < entry[0]]
        reason = _fault_of(entry, path, outer, items, _next_level(entries, at))
        if reason != "":
            raise BadData(reason, entry[1])
        parent = outer[-1][1] if outer else ""
        items[entry[1]] = Item(entry, parent)
        if parent != "":
            items[parent].children.append(entry[1])
        path = outer + [entry]
    return items


def _next_level(entries, at):
    # Behind the last entry a record could begin.
    return entries[at + 1][0] if at + 1 < len(entries) else 1


def _fault_of(entry, path, outer, items, next_level):
    """Return the first reason of point 305 that applies, or the empty string."""
    level, name, picture, times, value = entry
    if not _has_right_level(level, path):
        return "level"
    if name in items:
        return "name"
    if times > 0 and (not outer or _many_dimensions(outer) == MOST_DIMENSIONS):
        return "occurs"
    if value is not None and (picture is None or not _value_suits(picture, value)):
        return "value"
    has_children = next_level > level
    if has_children == (picture is not None):
        return "group"
    return ""


def _has_right_level(level, path):
    if not path:
        return level == 1
    return level > path[-1][0] or level in [other[0] for other in path]


def _many_dimensions(path):
    return len([other for other in path if other[3] > 0])


def _value_suits(picture, value):
    if picture[0] == "text":
        return isinstance(value, str) and len(value) <= size_of(picture)
    if isinstance(value, str):
        return False
    _, fraction = digits_in(picture)
    return value[1] <= fraction and suits(picture, aligned(value, fraction))


def _first_text_of_field(picture, value):
    if picture[0] == "text":
        return padded("" if value is None else value, size_of(picture))
    _, fraction = digits_in(picture)
    return written(picture, 0 if value is None else aligned(value, fraction))


def _add_sizes(items):
    # An item stands behind the group that it lies in, so its size is known ahead of the group's.
    for item in reversed(list(items.values())):
        if item.parent != "":
            group = items[item.parent]
            group.size = group.size + item.size * _times_of(item)


def _add_offsets(items):
    """Give each item its offset, and return the size of the storage."""
    free = {"": 0}
    for name, item in items.items():
        item.offset = free[item.parent]
        free[name] = item.offset
        free[item.parent] = item.offset + item.size * _times_of(item)
    return free[""]


def _times_of(item):
    return max(1, item.times)
