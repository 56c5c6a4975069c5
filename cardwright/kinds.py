"""Checking references, expressions and conditions (points 504 to 507)."""

from cardwright.errors import BadPart
from cardwright.limits import MOST_SCALE
from cardwright.pictures import digits_in


def check_reference(scope, reference):
    name, subscripts = reference
    scope.check_item(name)
    dims = scope.layout.dims(name)
    if len(subscripts) != len(dims):
        raise BadPart("subscripts", name)
    for (times, _), (field, number) in zip(dims, subscripts):
        if field != "":
            _check_index_field(scope, field)
        elif number > times:
            raise BadPart("range", name)
    return scope.layout.kind(name)


def check_number(scope, reference):
    if check_reference(scope, reference) != "number":
        raise BadPart("number", reference[0])


def check_target(scope, reference):
    if check_reference(scope, reference) not in ("number", "edited"):
        raise BadPart("target", reference[0])


def check_source(scope, source):
    if source[0] == "ref":
        check_reference(scope, source[1])


def check_expression(scope, tree):
    _check_numbers(scope, tree)
    if scale_of(scope.layout, tree) > MOST_SCALE:
        raise BadPart("scale", "")


def check_condition(scope, tree):
    kind = tree[0]
    if kind == "compare":
        check_expression(scope, tree[2])
        check_expression(scope, tree[3])
    elif kind == "texts":
        _check_text(scope, tree[2])
        _check_text(scope, tree[3])
    elif kind == "digits":
        check_reference(scope, tree[1])
    else:
        for part in tree[1:]:
            check_condition(scope, part)


def scale_of(layout, tree):
    """Return the scale of an expression whose references are numbers."""
    kind = tree[0]
    if kind == "number":
        return tree[1][1]
    if kind == "ref":
        _, fraction = digits_in(layout.item(tree[1][0]).picture)
        return fraction
    scales = [scale_of(layout, part) for part in tree[1:]]
    return sum(scales) if kind == "times" else max(scales)


def _check_index_field(scope, field):
    scope.check_item(field)
    picture = scope.layout.item(field).picture
    # Without a dimension of its own or around it, the field needs no index itself.
    if not _is_index_picture(picture) or len(scope.layout.dims(field)) > 0:
        raise BadPart("subscript", field)


def _is_index_picture(picture):
    if picture is None or picture[0] != "number":
        return False
    _, signed, _, fraction = picture
    return not signed and fraction == 0


def _check_numbers(scope, tree):
    if tree[0] == "ref":
        check_number(scope, tree[1])
    elif tree[0] != "number":
        for part in tree[1:]:
            _check_numbers(scope, part)


def _check_text(scope, source):
    if source[0] == "number":
        raise BadPart("text", "")
    if source[0] == "ref" and check_reference(scope, source[1]) == "number":
        raise BadPart("text", source[1][0])
