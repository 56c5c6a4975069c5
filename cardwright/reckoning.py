"""Making the code of places, expressions and conditions (points 603 to 605 and 801)."""

from cardwright.kinds import scale_of
from cardwright.pictures import digits_in

# Which relation holds just where another one does not.
OPPOSITES = {"=": "<>", "<>": "=", "<": ">=", ">=": "<", ">": "<=", "<=": ">"}
OPERATIONS = {"plus": "add", "minus": "subtract", "times": "multiply"}


def make_place(making, reference):
    """Push the address of a reference."""
    name, subscripts = reference
    layout = making.layout
    offset = layout.item(name).offset
    indexes = []
    for (times, size), (field, number) in zip(layout.dims(name), subscripts):
        if field == "":
            offset = offset + (number - 1) * size
        else:
            whole, _ = digits_in(layout.item(field).picture)
            indexes.append(("index", layout.item(field).offset, whole, number, times, size))
    making.emit("at", offset)
    for index in indexes:
        making.emit(*index)


def make_load(making, reference):
    make_place(making, reference)
    making.emit("load", making.layout.item(reference[0]).picture)


def make_value(making, tree, scale):
    """Push the units of an expression at a scale that is not less than its own."""
    own = scale_of(making.layout, tree)
    kind = tree[0]
    if kind == "number":
        making.emit("push", tree[1][0])
    elif kind == "ref":
        make_load(making, tree[1])
    elif kind == "negative":
        make_value(making, tree[1], own)
        making.emit("negate")
    else:
        for part in tree[1:]:
            make_value(making, part, scale_of(making.layout, part) if kind == "times" else own)
        making.emit(OPERATIONS[kind])
    if scale > own:
        making.emit("scale", scale - own)


def make_units(making, tree, scale, is_rounded):
    """Push the units of an expression at any scale, rounded or cut off."""
    own = scale_of(making.layout, tree)
    make_value(making, tree, max(own, scale))
    make_less_exact(making, own, scale, is_rounded)


def make_less_exact(making, own, scale, is_rounded):
    """Round or cut off the units on the top, unless the scale is not less than their own."""
    if scale < own:
        making.emit("round" if is_rounded else "cut", own - scale)


def make_text(making, source):
    """Push the address of a source that is no decimal, and return the size of its text."""
    kind, content = source
    if kind == "ref":
        make_place(making, content)
        return making.layout.item(content[0]).size
    making.emit("at", making.constant(content, (("text", len(content)),)))
    return len(content)


def make_jump(making, tree, truth, label):
    """Go on at the label if the condition has this truth, otherwise behind what is made."""
    kind = tree[0]
    if kind == "not":
        make_jump(making, tree[1], not truth, label)
    elif kind in ("and", "or"):
        _make_junction_jump(making, tree, truth, label)
    elif kind == "digits":
        size = make_text(making, ("ref", tree[1]))
        making.emit("digits", size)
        _make_relation_jump(making, "=", not truth, label)
    else:
        _make_sign(making, tree)
        _make_relation_jump(making, tree[1], truth, label)


def _make_junction_jump(making, tree, truth, label):
    kind, first, second = tree
    # The first part alone decides if it is true in an `or`, or false in an `and`.
    decides = kind == "or"
    if decides == truth:
        make_jump(making, first, truth, label)
        make_jump(making, second, truth, label)
    else:
        behind = making.new_label()
        make_jump(making, first, decides, behind)
        make_jump(making, second, truth, label)
        making.mark(behind)


def _make_sign(making, tree):
    """Push a number whose sign is the result of comparing."""
    kind, _, first, second = tree
    if kind == "texts":
        size = make_text(making, first)
        making.emit("texts", size, make_text(making, second))
        return
    scale = max(scale_of(making.layout, first), scale_of(making.layout, second))
    make_value(making, first, scale)
    make_value(making, second, scale)
    making.emit("subtract")


def _make_relation_jump(making, op, truth, label):
    # The jump is taken for 0, so the relation that is tested is the one that must not hold.
    making.emit("test", OPPOSITES[op] if truth else op)
    making.emit("zero", label)
