"""The compiler: code from a program (points 800 and 801)."""

from cardwright.decimals import units_at
from cardwright.editing import trimmed
from cardwright.kinds import scale_of
from cardwright.making import Making
from cardwright.pictures import digits_in
from cardwright.reckoning import (
    make_jump, make_less_exact, make_load, make_place, make_text, make_units, make_value,
)


def compile_program(program):
    making = Making(program)
    for paragraph, (_, statements) in enumerate(program[3]):
        making.begin_paragraph()
        _make_statements(making, statements)
        making.emit("leave", paragraph)
    return making.finished()


def _make_move(making, statement):
    _, source, reference = statement
    picture = _picture_of(making, reference)
    if picture is None or picture[0] == "text":
        _make_text_move(making, source, reference)
        return
    _, fraction = digits_in(picture)
    if source[0] == "number":
        making.emit("push", trimmed(picture, units_at(source[1], fraction, False)))
    else:
        _make_loaded_units(making, source[1], fraction)
    make_place(making, reference)
    making.emit("keep", picture)


def _make_text_move(making, source, reference):
    room = making.layout.item(reference[0]).size
    size = make_text(making, source)
    make_place(making, reference)
    if source[0] == "ref" and making.layout.kind(source[1][0]) == "number":
        making.emit("figures", _picture_of(making, source[1]), room)
    else:
        making.emit("copy", size, room)


def _make_loaded_units(making, reference, fraction):
    """Push the units of a number or edited field, cut off to a fraction."""
    _, own = digits_in(_picture_of(making, reference))
    make_load(making, reference)
    if fraction > own:
        making.emit("scale", fraction - own)
    make_less_exact(making, own, fraction, False)


def _make_set(making, statement):
    _, reference, is_rounded, tree, otherwise = statement
    _make_try(making, reference, tree, is_rounded)
    _make_otherwise(making, otherwise)


def _make_try(making, reference, tree, is_rounded):
    """Store an expression, and push 1 if it suits, otherwise 0."""
    picture = _picture_of(making, reference)
    _, fraction = digits_in(picture)
    make_units(making, tree, fraction, is_rounded)
    make_place(making, reference)
    making.emit("try", picture)


def _make_otherwise(making, otherwise):
    """Take a number from the stack, and execute the statements if it is 0."""
    if not otherwise:
        making.emit("drop")
        return
    behind = making.new_label()
    making.emit("test", "=")
    making.emit("zero", behind)
    _make_statements(making, otherwise)
    making.mark(behind)


def _make_divide(making, statement):
    _, above, below, reference, is_rounded, remainder, otherwise = statement
    first = scale_of(making.layout, above)
    second = scale_of(making.layout, below)
    make_value(making, above, first)
    make_value(making, below, second)
    make_place(making, reference)
    other = None
    if remainder is not None:
        make_place(making, remainder)
        other = _picture_of(making, remainder)
    making.emit("divide", first, second, _picture_of(making, reference), is_rounded, other)
    _make_otherwise(making, otherwise)


def _make_if(making, statement):
    _, condition, then, otherwise = statement
    other = making.new_label()
    make_jump(making, condition, False, other)
    _make_statements(making, then)
    if otherwise:
        behind = making.new_label()
        making.emit("jump", behind)
        making.mark(other)
        _make_statements(making, otherwise)
        making.mark(behind)
    else:
        making.mark(other)


def _make_perform(making, statement):
    _, first, last, way = statement
    call = ("call", making.paragraph_of(first), making.paragraph_of(last))
    if way[0] == "once":
        making.emit(*call)
    elif way[0] == "times":
        _make_times(making, way[1], call)
    elif way[0] == "until":
        _make_until(making, way[1], call, ())
    else:
        _, reference, start, pace, condition = way
        picture = _picture_of(making, reference)
        _, fraction = digits_in(picture)
        make_units(making, start, fraction, False)
        make_place(making, reference)
        making.emit("keep", picture)
        _make_until(making, condition, call, (reference, ("plus", ("ref", reference), pace)))


def _make_times(making, source, call):
    # How many times are left lies on the stack while the paragraphs are performed.
    if source[0] == "number":
        making.emit("push", source[1][0])
    else:
        _make_loaded_units(making, source[1], 0)
    again = making.here()
    behind = making.new_label()
    making.emit("double")
    making.emit("test", ">")
    making.emit("zero", behind)
    making.emit("step", 1)
    making.emit(*call)
    making.emit("push", 1)
    making.emit("subtract")
    making.emit("jump", again)
    making.mark(behind)
    making.emit("drop")


def _make_until(making, condition, call, pace):
    """Perform until a condition holds, and store an expression behind each time: the pace is its target and it."""
    again = making.here()
    behind = making.new_label()
    making.emit("step", 1)
    make_jump(making, condition, True, behind)
    making.emit(*call)
    if pace:
        reference, tree = pace
        _make_try(making, reference, tree, False)
        making.emit("drop")
    making.emit("jump", again)
    making.mark(behind)


def _make_read(making, statement):
    _, file, at_end, bad = statement
    record = making.record_of(file)
    making.emit("read", file, record.offset, record.size, tuple(making.layout.cells(record.name)))
    if not at_end and not bad:
        making.emit("drop")
        return
    # On the stack lies 0 for a line, 1 for a bad one, 2 for the end of the file.
    behind = making.new_label()
    other = making.new_label()
    making.emit("double")
    making.emit("push", 1)
    making.emit("subtract")
    making.emit("test", ">")
    making.emit("zero", other)
    making.emit("drop")
    _make_statements(making, at_end)
    making.emit("jump", behind)
    making.mark(other)
    making.emit("zero", behind)
    _make_statements(making, bad)
    making.mark(behind)


def _make_write(making, statement):
    record = making.record_of(statement[1])
    making.emit("write", statement[1], record.offset, record.size)


def _make_show(making, statement):
    for source in statement[1]:
        kind, content = source
        if kind == "number":
            making.emit("push", content[0])
            making.emit("show-number", content[1])
        elif kind == "ref" and making.layout.kind(content[0]) == "number":
            make_load(making, content)
            _, fraction = digits_in(_picture_of(making, content))
            making.emit("show-number", fraction)
        else:
            making.emit("show-text", make_text(making, source))
    making.emit("show-line")


def _make_sort(making, statement):
    _, table, key, is_descending = statement
    item = making.layout.item(table)
    key_item = making.layout.item(key)
    offset = key_item.offset - item.offset
    making.emit("sort", item.offset, item.size, item.times, offset, key_item.picture, is_descending)


def _make_clear(making, statement):
    name, _ = statement[1]
    size = making.layout.item(name).size
    making.emit("at", making.constant(making.layout.first_text(name), making.layout.shape(name)))
    make_place(making, statement[1])
    making.emit("copy", size, size)


def _make_stop(making, _):
    making.emit("halt", "stop")


MAKERS = {
    "move": _make_move, "set": _make_set, "divide": _make_divide, "if": _make_if, "perform": _make_perform,
    "read": _make_read, "write": _make_write, "show": _make_show, "sort": _make_sort, "clear": _make_clear,
    "stop": _make_stop,
}


def _make_statements(making, statements):
    for statement in statements:
        making.emit("step", 1)
        make_statement = MAKERS[statement[0]]
        make_statement(making, statement)


def _picture_of(making, reference):
    return making.layout.item(reference[0]).picture
