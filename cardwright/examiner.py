"""The examiner: which code never gets stuck (points 704 to 708)."""

from cardwright.code import check_forms
from cardwright.editing import holds
from cardwright.errors import BadCode
from cardwright.flow import next_places
from cardwright.looks import MOST_OFFSETS, Look
from cardwright.pictures import size_of


def examine(code):
    check_forms(code)
    if code.has_doubles or not _is_memory_right(code):
        raise BadCode(0, "memory")
    if len(code.starts) == 0 or code.starts[0] != 0:
        raise BadCode(0, "start")
    for paragraph in range(len(code.starts)):
        _check_end(code, paragraph)
        _follow(code, paragraph)


def _is_memory_right(code):
    free = 0
    for offset in sorted(code.cells):
        picture = code.cells[offset]
        end = offset + size_of(picture)
        if offset < free or offset < code.size < end:
            return False
        # Behind the last constant there is no text to hold.
        if offset >= code.size and not holds(picture, code.constants[offset - code.size:end - code.size]):
            return False
        free = end
    return True


def _check_end(code, paragraph):
    # Of a paragraph without instructions, this is the last one of the paragraph ahead of it.
    _, end = code.region(paragraph)
    if code.instructions[end - 1:end] != (("leave", paragraph),):
        raise BadCode(end - 1, "leave")


def _follow(code, paragraph):
    start, end = code.region(paragraph)
    stacks = {start: ()}
    waiting = [start]
    while waiting:
        place = waiting.pop()
        instruction = code.instructions[place]
        stack = _stack_behind(code, place, stacks[place])
        others = next_places(place, instruction, place == end - 1)
        if not all([start <= other < end for other in others]):
            raise BadCode(place, "jump")
        for other in others:
            if other not in stacks:
                stacks[other] = stack
                waiting.append(other)
            elif stacks[other] != stack:
                raise BadCode(place, "meeting")


def _stack_behind(code, place, stack):
    """Return the kinds of what is on the stack behind an instruction, which must suit the stack ahead of it."""
    look = Look(code, place, stack)
    kind = code.instructions[place][0]
    items = code.instructions[place][1:]
    # The other instructions need nothing and leave the stack as it is.
    if kind in NEEDS:
        need = NEEDS[kind]
        need(look, *items)
    return look.stack()


def _need_push(look, _):
    look.push_number()


def _need_at(look, offset):
    look.push_address(offset, ())


def _need_index(look, offset, digits, _, times, size):
    look.need_fields([offset], ("number", False, digits, 0))
    start, indexes = look.pop_address()
    look.push_address(start, indexes + ((times, size),))


def _need_load(look, picture):
    look.need_fields(look.pop_offsets(), picture)
    look.push_number()


def _need_target(look, picture):
    """Take the address of a field that is written."""
    offsets = look.pop_offsets()
    look.need_fields(offsets, picture)
    look.need_storage(offsets, size_of(picture))


def _need_keep(look, picture):
    _need_target(look, picture)
    look.pop_number()


def _need_try(look, picture):
    _need_keep(look, picture)
    look.push_number()


def _need_divide(look, first, second, picture, is_rounded, remainder):
    if remainder is not None:
        _need_target(look, remainder)
    _need_target(look, picture)
    _need_two_numbers(look)


def _need_number(look, *items):
    look.pop_number()


def _need_one_number(look, *items):
    look.pop_number()
    look.push_number()


def _need_two_numbers(look):
    look.pop_number()
    look.pop_number()
    look.push_number()


def _need_double(look):
    look.pop_number()
    look.push_number()
    look.push_number()


def _need_copy(look, size, room):
    targets = look.pop_offsets()
    sources = look.pop_offsets()
    look.need_storage(targets, room)
    source = look.shape_of(sources, size)
    target = look.shape_of(targets, room)
    look.need(target in (source, (("text", room),)), "copy")


def _need_figures(look, picture, room):
    targets = look.pop_offsets()
    sources = look.pop_offsets()
    look.need_storage(targets, room)
    look.need(picture[0] == "number", "field")
    look.need_fields(sources, picture)
    look.need_fields(targets, ("text", room))


def _need_texts(look, size, other):
    seconds = look.pop_offsets()
    firsts = look.pop_offsets()
    look.shape_of(seconds, other)
    look.shape_of(firsts, size)
    look.push_number()


def _need_digits(look, size):
    look.shape_of(look.pop_offsets(), size)
    look.push_number()


def _need_show_text(look, size):
    look.shape_of(look.pop_offsets(), size)


def _need_call(look, first, last):
    look.need(first <= last < len(look.code.starts), "call")


def _need_leave(look, paragraph):
    look.need(look.stack() == () and paragraph < len(look.code.starts), "stack")


def _need_file(look, kind, name):
    look.need(any([file[0] == kind and file[1] == name for file in look.code.files]), "file")


def _need_read(look, name, offset, size, cells):
    _need_file(look, "input", name)
    look.need_storage([offset], size)
    look.need(cells == look.cells_of(offset, size), "read")
    look.push_number()


def _need_write(look, name, offset, size):
    _need_file(look, "output", name)
    look.shape_of([offset], size)


def _need_sort(look, offset, size, times, key, picture, _):
    look.need(times <= MOST_OFFSETS and key < size, "sort")
    offsets = [offset + at * size for at in range(times)]
    look.shape_of(offsets, size)
    look.need_storage(offsets, size)
    look.need_fields([one + key for one in offsets], picture)


NEEDS = {
    "push": _need_push, "at": _need_at, "index": _need_index, "load": _need_load, "keep": _need_keep,
    "try": _need_try, "divide": _need_divide, "trim": _need_one_number, "scale": _need_one_number,
    "cut": _need_one_number, "round": _need_one_number, "negate": _need_one_number, "test": _need_one_number,
    "add": _need_two_numbers, "subtract": _need_two_numbers, "multiply": _need_two_numbers,
    "double": _need_double, "drop": _need_number, "zero": _need_number, "show-number": _need_number,
    "copy": _need_copy, "figures": _need_figures, "texts": _need_texts, "digits": _need_digits,
    "show-text": _need_show_text, "call": _need_call, "leave": _need_leave, "read": _need_read,
    "write": _need_write, "sort": _need_sort,
}
