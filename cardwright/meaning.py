"""The plain meaning of a program (points 601 to 614)."""

from cardwright.decimals import add, compare, divide, multiply, negative, normal, show, subtract, units_at
from cardwright.editing import reading, value_of
from cardwright.errors import Halt
from cardwright.files import Files
from cardwright.layout import Layout
from cardwright.moves import cut_to, moved, stored
from cardwright.pictures import digits_in, size_of
from cardwright.storage import Storage
from cardwright.words import are_figures


def order_of(op, sign):
    if op == "=":
        return sign == 0
    if op == "<>":
        return sign != 0
    if op == "<":
        return sign < 0
    if op == ">":
        return sign > 0
    return sign <= 0 if op == "<=" else sign >= 0


def compare_texts(one, other):
    size = max(len(one), len(other))
    first = one.ljust(size)
    second = other.ljust(size)
    if first == second:
        return 0
    return -1 if first < second else 1


def sorted_rows(rows, offset, picture, is_descending):
    end = offset + size_of(picture)

    def key_of(row):
        text = row[offset:end]
        return text if picture[0] == "text" else reading(picture, text)

    # Sorting from the greatest key down keeps the order of equal keys, too.
    return sorted(rows, key=key_of, reverse=True) if is_descending else sorted(rows, key=key_of)


class Run:
    """What a run of a program has: its names, its storage, its files and the steps that are left."""

    def __init__(self, program, lines, steps):
        _, entries, files, paragraphs = program
        self.layout = Layout(entries)
        self.storage = Storage(self.layout.first_storage())
        self.files = Files(files, lines)
        self.left = steps
        self.paragraphs = paragraphs
        self._places = {name: at for at, (name, _) in enumerate(paragraphs)}

    def take_step(self):
        if self.left == 0:
            raise Halt("steps")
        self.left = self.left - 1

    def place_of(self, reference):
        name, subscripts = reference
        place = self.layout.item(name).offset
        for (times, size), (field, number) in zip(self.layout.dims(name), subscripts):
            index = number + self._index_in(field)
            if not 1 <= index <= times:
                raise Halt("index")
            place = place + (index - 1) * size
        return place

    def text_of(self, reference):
        place = self.place_of(reference)
        return self.storage.read(place, self.layout.item(reference[0]).size)

    def value_at(self, reference):
        return value_of(self.picture_of(reference), self.text_of(reference))

    def picture_of(self, reference):
        return self.layout.item(reference[0]).picture

    def range_of(self, first, last):
        """Return the paragraphs from the first to the last one."""
        return self.paragraphs[self._places[first]:self._places[last] + 1]

    def outcome(self, end):
        return end, self.left, self.storage.text(), self.files.outputs(), tuple(self.files.shown)

    def _index_in(self, field):
        return 0 if field == "" else int(self.text_of((field, ())))


def run_plain(program, lines, steps):
    run = Run(program, lines, steps)
    _, statements = program[3][0]
    try:
        _execute(run, statements)
    except Halt as halt:
        return run.outcome(halt.end)
    return run.outcome("end")


def _value_of(run, tree):
    kind = tree[0]
    if kind == "number":
        return tree[1]
    if kind == "ref":
        return run.value_at(tree[1])
    if kind == "negative":
        return negative(_value_of(run, tree[1]))
    first = _value_of(run, tree[1])
    second = _value_of(run, tree[2])
    if kind == "plus":
        return add(first, second)
    return subtract(first, second) if kind == "minus" else multiply(first, second)


def _content_of(run, source):
    """Return the string or the decimal of a source, or the text of a reference."""
    kind, content = source
    return run.text_of(content) if kind == "ref" else content


def _is_true(run, tree):
    kind = tree[0]
    if kind == "compare":
        first = _value_of(run, tree[2])
        return order_of(tree[1], compare(first, _value_of(run, tree[3])))
    if kind == "texts":
        text = _content_of(run, tree[2])
        return order_of(tree[1], compare_texts(text, _content_of(run, tree[3])))
    if kind == "digits":
        return are_figures(run.text_of(tree[1]))
    if kind == "not":
        return not _is_true(run, tree[1])
    if kind == "and":
        return _is_true(run, tree[1]) and _is_true(run, tree[2])
    return _is_true(run, tree[1]) or _is_true(run, tree[2])


def _end_of_move(run, source):
    """Return a source as moved takes it; a move does not need the shape of a group."""
    kind, content = source
    if kind == "number":
        return ("decimal",)
    if kind == "text":
        return ("string",)
    picture = run.picture_of(content)
    return ("group", ()) if picture is None else picture


def _move(run, statement):
    _, source, reference = statement
    content = _content_of(run, source)
    place = run.place_of(reference)
    target = _end_of_move(run, ("ref", reference))
    run.storage.write(place, moved(_end_of_move(run, source), content, target))


def _set(run, statement):
    _, reference, is_rounded, tree, otherwise = statement
    value = _value_of(run, tree)
    place = run.place_of(reference)
    text = stored(run.picture_of(reference), value, is_rounded)
    if text is None:
        _execute(run, otherwise)
    else:
        run.storage.write(place, text)


def _divide(run, statement):
    _, above, below, reference, is_rounded, remainder, otherwise = statement
    a = _value_of(run, above)
    b = _value_of(run, below)
    targets = [reference] if remainder is None else [reference, remainder]
    places = [run.place_of(target) for target in targets]
    pictures = [run.picture_of(target) for target in targets]
    texts = quotient_texts(a, b, pictures, is_rounded)
    if None in texts:
        _execute(run, otherwise)
        return
    for place, text in zip(places, texts):
        run.storage.write(place, text)


def quotient_texts(a, b, pictures, is_rounded):
    """Return the text of a quotient and, if there is a second picture, of its remainder; None in place of what
    does not suit."""
    if b[0] == 0:
        return [None]
    _, fraction = digits_in(pictures[0])
    quotient = normal(divide(a, b, fraction, is_rounded), fraction)
    cut_off = normal(divide(a, b, fraction, False), fraction)
    values = [quotient, subtract(a, multiply(b, cut_off))]
    return [stored(picture, value, False) for picture, value in zip(pictures, values)]


def _if(run, statement):
    _, condition, then, otherwise = statement
    _execute(run, then if _is_true(run, condition) else otherwise)


def _perform(run, statement):
    _, first, last, way = statement
    paragraphs = run.range_of(first, last)
    kind = way[0]
    if kind == "once":
        _execute_range(run, paragraphs)
    elif kind == "times":
        many = way[1][1] if way[1][0] == "number" else run.value_at(way[1][1])
        for _ in range(units_at(many, 0, False)):
            run.take_step()
            _execute_range(run, paragraphs)
    elif kind == "until":
        while _goes_on(run, way[1]):
            _execute_range(run, paragraphs)
    else:
        _perform_varying(run, paragraphs, way)


def _perform_varying(run, paragraphs, way):
    _, reference, start, pace, condition = way
    value = _value_of(run, start)
    place = run.place_of(reference)
    picture = run.picture_of(reference)
    run.storage.write(place, cut_to(picture, value))
    while _goes_on(run, condition):
        _execute_range(run, paragraphs)
        total = _value_of(run, ("plus", ("ref", reference), pace))
        place = run.place_of(reference)
        text = stored(picture, total, False)
        if text is not None:
            run.storage.write(place, text)


def _goes_on(run, condition):
    run.take_step()
    return not _is_true(run, condition)


def _execute_range(run, paragraphs):
    for _, statements in paragraphs:
        _execute(run, statements)


def _read(run, statement):
    _, name, at_end, bad = statement
    record = run.layout.item(run.files.record_of(name))
    kind, text = run.files.read(name, record.size, run.layout.cells(record.name))
    if kind == "end":
        _execute(run, at_end)
    elif kind == "bad":
        _execute(run, bad)
    else:
        run.storage.write(record.offset, text)


def _write(run, statement):
    record = run.files.record_of(statement[1])
    run.files.write(statement[1], run.text_of((record, ())))


def _show(run, statement):
    run.files.show("".join([_shown(run, source) for source in statement[1]]))


def _shown(run, source):
    kind, content = source
    if kind == "number":
        return show(content)
    if kind == "ref" and run.layout.kind(content[0]) == "number":
        return show(run.value_at(content))
    return _content_of(run, source)


def _sort(run, statement):
    _, table, key, is_descending = statement
    item = run.layout.item(table)
    key_item = run.layout.item(key)
    rows = [run.storage.read(item.offset + at * item.size, item.size) for at in range(item.times)]
    ordered = sorted_rows(rows, key_item.offset - item.offset, key_item.picture, is_descending)
    run.storage.write(item.offset, "".join(ordered))


def _clear(run, statement):
    _, reference = statement
    place = run.place_of(reference)
    run.storage.write(place, run.layout.first_text(reference[0]))


def _stop(run, statement):
    raise Halt("stop")


ACTIONS = {
    "move": _move, "set": _set, "divide": _divide, "if": _if, "perform": _perform, "read": _read, "write": _write,
    "show": _show, "sort": _sort, "clear": _clear, "stop": _stop,
}


def _execute(run, statements):
    for statement in statements:
        run.take_step()
        action = ACTIONS[statement[0]]
        action(run, statement)
