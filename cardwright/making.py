"""Code in the making: instructions, the places that jumps lead to, and constants (points 700 and 702)."""

from cardwright.code import Code
from cardwright.flow import JUMPS
from cardwright.layout import Layout
from cardwright.pictures import size_of


class Making:
    """The code of a program as far as it was made; jumps lead to labels until it is finished."""

    def __init__(self, program):
        _, entries, files, paragraphs = program
        self.layout = Layout(entries)
        self._files = files
        self._records = {name: record for _, name, record in files}
        self._paragraphs = {name: at for at, (name, _) in enumerate(paragraphs)}
        self._starts = []
        self._instructions = []
        # The place of each label.
        self._labels = []
        # Where the constants with a text and a shape stand, and their texts.
        self._offsets = {}
        self._constants = []
        self._cells = []
        for name in self.layout.records():
            self._add_cells(self.layout.item(name).offset, self.layout.shape(name))
        self._size = self.layout.size()

    def record_of(self, file):
        return self.layout.item(self._records[file])

    def paragraph_of(self, name):
        return self._paragraphs[name]

    def emit(self, *instruction):
        self._instructions.append(instruction)

    def begin_paragraph(self):
        self._starts.append(len(self._instructions))

    def new_label(self):
        self._labels.append(None)
        return len(self._labels) - 1

    def mark(self, label):
        """Let the label stand for the place of the next instruction."""
        self._labels[label] = len(self._instructions)

    def here(self):
        label = self.new_label()
        self.mark(label)
        return label

    def constant(self, text, shape):
        """Return the offset of a constant with this text, whose fields have the pictures of the shape."""
        if (text, shape) not in self._offsets:
            self._offsets[text, shape] = self._size
            self._add_cells(self._size, shape)
            self._constants.append(text)
            self._size = self._size + len(text)
        return self._offsets[text, shape]

    def finished(self):
        instructions = [self._with_place(instruction) for instruction in self._instructions]
        constants = "".join(self._constants)
        return Code(self._files, self.layout.size(), constants, tuple(self._cells), self._starts, instructions)

    def _add_cells(self, offset, shape):
        at = offset
        for picture in shape:
            self._cells.append((at, picture))
            at = at + size_of(picture)

    def _with_place(self, instruction):
        if instruction[0] in JUMPS:
            return instruction[0], self._labels[instruction[1]]
        return instruction
