"""A look at one instruction: what is on the stack, and what stands in the memory (point 707)."""

from cardwright.errors import BadCode
from cardwright.pictures import size_of

MOST_OFFSETS = 10_000
NUMBER = ("number",)


class Look:
    """The code, a place in it, and the kinds of what is on the stack: numbers, and addresses with their indexes."""

    def __init__(self, code, place, stack):
        self.code = code
        self._place = place
        self._stack = list(stack)

    def need(self, is_right, reason):
        if not is_right:
            raise BadCode(self._place, reason)

    def stack(self):
        return tuple(self._stack)

    def push_number(self):
        self._stack.append(NUMBER)

    def push_address(self, offset, indexes):
        self._stack.append(("address", offset, indexes))

    def pop_number(self):
        self.need(len(self._stack) > 0 and self._stack[-1] == NUMBER, "number")
        self._stack.pop()

    def pop_address(self):
        """Take the address on the top, and return its offset and its indexes."""
        self.need(len(self._stack) > 0 and self._stack[-1] != NUMBER, "address")
        _, offset, indexes = self._stack.pop()
        many = 1
        for times, _ in indexes:
            many = many * times
        self.need(many <= MOST_OFFSETS, "many")
        return offset, indexes

    def pop_offsets(self):
        """Take the address on the top, and return the list of the offsets that it may be."""
        offset, indexes = self.pop_address()
        offsets = [offset]
        for times, size in indexes:
            offsets = [one + at * size for one in offsets for at in range(times)]
        return offsets

    def need_fields(self, offsets, picture):
        cells = self.code.cells
        self.need(all([cells.get(offset) == picture for offset in offsets]), "field")

    def need_storage(self, offsets, size):
        """Only fields of the storage may be written."""
        self.need(all([offset + size <= self.code.size for offset in offsets]), "constant")

    def shape_of(self, offsets, size):
        """Return the pictures of the fields that fill the text at each of the offsets."""
        shape = self._shape_at(offsets[0], size)
        self.need(shape is not None, "shape")
        self.need(all([self._shape_at(offset, size) == shape for offset in offsets]), "shape")
        return shape

    def cells_of(self, offset, size):
        """Return the pairs of the fields that fill a text, with offsets from its beginning."""
        cells = []
        at = 0
        for picture in self.shape_of([offset], size):
            cells.append((at, picture))
            at = at + size_of(picture)
        return tuple(cells)

    def _shape_at(self, offset, size):
        pictures = []
        at = offset
        while at < offset + size:
            picture = self.code.cells.get(at)
            if picture is None:
                return None
            pictures.append(picture)
            at = at + size_of(picture)
        return tuple(pictures) if at == offset + size else None
