import unittest

from cardwright.code import Code
from cardwright.errors import BadCode
from cardwright.examiner import examine
from codes import DIGIT, EDITED, SIGNED, TWO, cells_of, code_of, code_of_paragraphs

T1, T2, T3 = ("text", 1), ("text", 2), ("text", 3)
#          0     1    3       7       12  15  17                          21                          27
STORAGE = [DIGIT, TWO, SIGNED, EDITED, T3, T2, DIGIT, DIGIT, DIGIT, DIGIT, T1, DIGIT, T1, DIGIT, T1, DIGIT]
#               27          29           31            32            35             36
CONSTANTS = [(T2, "it"), (TWO, "77"), (DIGIT, "5"), (T3, "abc"), (T1, "z"), (DIGIT, "1")]
FILES = (("input", "f", "r"), ("output", "g", "r"))
CELLS = ((0, T3), (3, T2))
N = ("push", 5)
MANY = ("index", 0, 1, 0, 10001, 1)


def at(*offsets):
    return [("at", offset) for offset in offsets]


class ExamineCase(unittest.TestCase):
    def check_fault(self, place, reason, code):
        with self.assertRaises(BadCode, msg=code.instructions) as caught:
            examine(code)
        self.assertEqual((caught.exception.place, caught.exception.reason), (place, reason), code.instructions)

    def right(self, *rows):
        code = code_of(rows, STORAGE, CONSTANTS, FILES)
        self.assertIsNone(examine(code), rows)

    def wrong(self, reason, *rows):
        """Check that the last one of the rows is refused."""
        self.check_fault(len(rows) - 1, reason, code_of(rows, STORAGE, CONSTANTS, FILES))
        # What comes behind does not matter.
        self.check_fault(len(rows) - 1, reason, code_of(list(rows) + [("add",), ("drop",)], STORAGE, CONSTANTS, FILES))


class TestWhole(ExamineCase):
    def test_704_forms_come_first(self):
        self.check_fault(3, "form", Code((), 0, "", ((5, DIGIT),), (1,), (("add",), ("add",), ("jump", 9), ("add", 1))))
        self.check_fault(1, "item", Code((), 0, "", (), (), (("add",), ("step", 0))))
        self.check_fault(2, "item", code_of([("add",), ("drop",), ("push", True)]))
        self.check_fault(2, "form", code_of_paragraphs([[("add",)], [("push",)]]))

    def test_706_memory_comes_second(self):
        self.check_fault(0, "memory", Code((), 0, "", ((0, DIGIT),), (), ()))
        self.check_fault(0, "memory", Code((), 0, "", ((0, DIGIT),), (0,), (("add",), ("leave", 0))))
        self.check_fault(0, "memory", Code((), 0, "", ((0, DIGIT),), (1,), (("add",), ("leave", 0))))

    def test_706_start(self):
        self.check_fault(0, "start", Code((), 0, "", (), (), ()))
        self.check_fault(0, "start", Code((), 0, "", (), (), (("leave", 0),)))
        self.check_fault(0, "start", Code((), 0, "", (), (1,), (("add",), ("leave", 0))))
        self.check_fault(0, "start", Code((), 0, "", (), (1, 2), (("add",), ("add",), ("add",))))

    def test_706_leave(self):
        self.check_fault(-1, "leave", Code((), 0, "", (), (0,), ()))
        self.check_fault(-1, "leave", Code((), 0, "", (), (0, 0), (("leave", 1),)))
        self.check_fault(0, "leave", Code((), 0, "", (), (0, 1), (("leave", 0),)))
        self.check_fault(0, "leave", Code((), 0, "", (), (0, 1, 1), (("leave", 0), ("leave", 2))))
        for last in [("leave", 1), ("halt", "end"), ("step", 1), ("jump", 0)]:
            self.check_fault(2, "leave", Code((), 0, "", (), (0,), (("step", 1), ("leave", 0), last)))
            self.check_fault(1, "leave", Code((), 0, "", (), (0, 2), (("step", 1), last, ("leave", 1))))
        self.check_fault(2, "leave", Code((), 0, "", (), (0, 1), (("leave", 0), ("leave", 1), ("leave", 0))))
        self.assertIsNone(examine(Code((), 0, "", (), (0, 1), (("leave", 0), ("leave", 1)))))

    def test_706_one_paragraph_after_another(self):
        # The end of a paragraph is looked at ahead of the rest of it, and behind all of the paragraphs ahead of it.
        self.check_fault(1, "leave", Code((), 0, "", (), (0,), (("add",), ("step", 1))))
        self.check_fault(0, "number", Code((), 0, "", (), (0, 2), (("add",), ("leave", 0), ("leave", 0))))
        self.check_fault(2, "leave", Code((), 0, "", (), (0, 2), (("step", 1), ("leave", 0), ("leave", 0))))
        self.check_fault(2, "number", Code((), 0, "", (), (0, 2, 4), (("step", 1), ("leave", 0), ("add",), ("leave", 1), ("leave", 0))))

    def test_707_what_is_not_come_by(self):
        self.assertIsNone(examine(code_of([("jump", 2), ("add",)])))
        self.assertIsNone(examine(code_of([("halt", "end"), ("add",), ("load", DIGIT)])))
        # Each paragraph is looked at, called or not.
        self.check_fault(1, "number", code_of_paragraphs([[], [("add",)]]))


class TestMemory(ExamineCase):
    def check_memory(self, size, constants, cells, is_right):
        code = Code((), size, constants, cells, (0,), (("leave", 0),))
        if is_right:
            self.assertIsNone(examine(code), cells)
        else:
            self.check_fault(0, "memory", code)

    def test_706_places(self):
        self.check_memory(0, "", (), True)
        self.check_memory(5, "", ((0, T2), (2, T3)), True)
        self.check_memory(5, "", ((2, T3), (0, T2)), True)
        # There may be gaps.
        self.check_memory(7, "abc", ((1, T2), (4, T2), (8, T1)), True)
        self.check_memory(5, "", ((0, T2), (1, T3)), False)
        self.check_memory(5, "", ((1, T3), (0, T2)), False)
        self.check_memory(5, "", ((0, T3), (1, T1)), False)
        self.check_memory(5, "", ((3, T3),), False)
        self.check_memory(5, "", ((5, T1),), False)
        self.check_memory(5, "", ((4, T1),), True)
        self.check_memory(5, "abc", ((4, T2),), False)
        self.check_memory(5, "abc", ((5, T3),), True)
        self.check_memory(5, "abc", ((6, T3),), False)
        self.check_memory(5, "abc", ((8, T1),), False)
        self.check_memory(5, "abc", ((5, T2), (6, T2)), False)
        self.check_memory(5, "abc", ((4, T1), (5, T1), (6, T2)), True)

    def test_706_two_fields_at_one_offset(self):
        self.check_memory(5, "", ((0, T2), (0, T2)), False)
        self.check_memory(5, "", ((0, T2), (2, T3), (0, T1)), False)
        code = Code((), 5, "", ((0, T2), (0, T1)), (0,), (("leave", 0),))
        self.check_fault(0, "memory", code.with_instructions((0,), (("step", 1), ("leave", 0))))

    def test_706_constants(self):
        for picture, text, is_right in [(T3, "abc", True), (T3, "a~ ", True), (T3, "a\nb", False), (TWO, "07", True), (TWO, " 7", False), (SIGNED, "+123", True),
                                        (SIGNED, "-000", False), (SIGNED, " 123", False), (EDITED, " 7.5-", True), (EDITED, " 0.0-", False), (EDITED, "07.5 ", False)]:
            self.check_memory(0, text, ((0, picture),), is_right)
            self.check_memory(3, "77" + text, ((0, T3), (3, TWO), (5, picture)), is_right)


class TestNumbers(ExamineCase):
    def test_707_numbers(self):
        for instruction in [("trim", TWO), ("scale", 1), ("cut", 1), ("round", 1), ("negate",), ("test", "<"), ("double",), ("drop",), ("zero", 3), ("show-number", 0)]:
            self.wrong("number", instruction)
            self.wrong("number", ("at", 0), instruction)
            self.wrong("number", N, ("at", 0), instruction)
            self.wrong("number", N, ("drop",), instruction)
        for instruction in [("trim", TWO), ("scale", 1), ("cut", 1), ("round", 1), ("negate",), ("test", "<")]:
            self.right(N, instruction, ("drop",))
            self.right(N, instruction, ("at", 0), ("keep", DIGIT))
        self.right(N, ("double",), ("drop",), ("drop",))
        self.right(N, ("show-number", 0))
        self.right(N, ("zero", 2))

    def test_707_two_numbers(self):
        for instruction in [("add",), ("subtract",), ("multiply",)]:
            self.wrong("number", instruction)
            self.wrong("number", N, instruction)
            self.wrong("number", N, ("at", 0), instruction)
            self.wrong("number", ("at", 0), N, instruction)
            self.right(N, N, instruction, ("drop",))
            self.wrong("number", N, N, instruction, ("drop",), ("drop",))


class TestAddresses(ExamineCase):
    def test_707_addresses(self):
        for instruction in [("load", DIGIT), ("keep", DIGIT), ("try", DIGIT), ("index", 0, 1, 0, 3, 1), ("digits", 1), ("show-text", 1), ("texts", 1, 1), ("copy", 1, 1),
                            ("figures", DIGIT, 1), ("divide", 0, 0, DIGIT, False, None), ("divide", 0, 0, DIGIT, False, DIGIT)]:
            self.wrong("address", instruction)
            self.wrong("address", N, instruction)
            self.wrong("address", N, ("at", 0), N, instruction)
        for instruction in [("texts", 1, 1), ("copy", 1, 1), ("figures", DIGIT, 1)]:
            self.wrong("address", ("at", 0), instruction)
            self.wrong("address", ("at", 0), N, ("at", 0), instruction)

    def test_707_load(self):
        for offset, picture in [(0, DIGIT), (1, TWO), (3, SIGNED), (7, EDITED), (29, TWO), (31, DIGIT)]:
            self.right(("at", offset), ("load", picture), ("drop",))
        for offset, picture in [(0, TWO), (1, DIGIT), (2, DIGIT), (12, DIGIT), (3, ("number", True, 1, 2)), (7, ("edited", "z9.9", 2, 1, "-")), (27, TWO), (37, DIGIT), (10 ** 9, DIGIT)]:
            self.wrong("field", ("at", offset), ("load", picture))

    def test_707_keep_and_try(self):
        for kind in ["keep", "try"]:
            behind = [("drop",)] if kind == "try" else []
            for offset, picture in [(0, DIGIT), (1, TWO), (3, SIGNED), (7, EDITED)]:
                self.right(N, ("at", offset), (kind, picture), *behind)
                self.wrong("number", ("at", offset), (kind, picture))
                self.wrong("number", ("at", 0), ("at", offset), (kind, picture))
            self.wrong("field", N, ("at", 0), (kind, TWO))
            self.wrong("field", ("at", 27), (kind, TWO))
            self.wrong("field", ("at", 31), (kind, TWO))
            self.wrong("constant", N, ("at", 29), (kind, TWO))
            self.wrong("constant", ("at", 31), (kind, DIGIT))

    def test_708_divide(self):
        for picture, offset in [(DIGIT, 0), (SIGNED, 3), (EDITED, 7)]:
            self.right(N, N, ("at", offset), ("divide", 0, 1, picture, True, None), ("drop",))
            self.right(N, N, ("at", offset), ("at", 1), ("divide", 0, 1, picture, True, TWO), ("drop",))
        plain = ("divide", 0, 0, DIGIT, False, None)
        both = ("divide", 0, 0, DIGIT, False, TWO)
        self.wrong("number", ("at", 0), plain)
        self.wrong("number", N, ("at", 0), plain)
        self.wrong("number", ("at", 0), N, ("at", 0), plain)
        self.wrong("number", N, ("at", 0), ("at", 1), both)
        self.wrong("field", ("at", 1), plain)
        self.wrong("constant", ("at", 31), plain)
        # The remainder comes first: its address, field and storage, then the quotient, then the numbers.
        self.wrong("address", ("at", 1), N, both)
        self.wrong("field", ("at", 1), ("at", 0), both)
        self.wrong("constant", N, ("at", 29), both)
        self.wrong("field", N, ("at", 27), both)
        self.wrong("address", N, ("at", 1), both)
        self.wrong("field", ("at", 1), ("at", 1), both)
        self.wrong("constant", ("at", 31), ("at", 1), both)
        self.wrong("many", N, ("at", 0), MANY, ("at", 1), both)

    def test_708_index(self):
        self.right(("at", 17), ("index", 0, 1, 0, 4, 1), ("load", DIGIT), ("drop",))
        self.right(("at", 17), ("index", 31, 1, 5, 4, 1), ("load", DIGIT), ("drop",))
        self.right(("at", 17), ("index", 1, 2, -7, 4, 1), ("load", DIGIT), ("drop",))
        for offset, digits in [(0, 2), (1, 1), (2, 1), (3, 3), (3, 4), (7, 5), (12, 3), (15, 2), (37, 1), (10 ** 9, 1)]:
            self.wrong("field", ("at", 17), ("index", offset, digits, 0, 4, 1))
            # The field comes ahead of the address.
            self.wrong("field", ("index", offset, digits, 0, 4, 1))
            self.wrong("field", N, ("index", offset, digits, 0, 4, 1))
        self.wrong("address", N, ("index", 0, 1, 0, 4, 1))

    def test_707_every_offset(self):
        index = ("index", 0, 1, 0, 4, 1)
        self.right(("at", 17), index, ("load", DIGIT), ("drop",))
        self.wrong("field", ("at", 16), index, ("load", DIGIT))
        self.wrong("field", ("at", 18), index, ("load", DIGIT))
        self.wrong("field", ("at", 17), ("index", 0, 1, 0, 5, 1), ("load", DIGIT))
        self.right(("at", 22), ("index", 0, 1, 0, 3, 2), ("load", DIGIT), ("drop",))
        self.right(("at", 18), ("index", 0, 1, 0, 5, 2), ("load", DIGIT), ("drop",))
        self.wrong("field", ("at", 21), ("index", 0, 1, 0, 3, 2), ("load", DIGIT))
        self.wrong("field", ("at", 22), ("index", 0, 1, 0, 3, 1), ("load", DIGIT))
        self.wrong("constant", N, ("at", 26), ("index", 0, 1, 0, 2, 5), ("keep", DIGIT))
        self.wrong("constant", N, ("at", 26), ("index", 0, 1, 0, 2, 10), ("keep", DIGIT))
        self.right(("at", 26), ("index", 0, 1, 0, 2, 10), ("load", DIGIT), ("drop",))
        # Two indexes: 17 and 18, and these two places further.
        self.right(("at", 17), ("index", 0, 1, 0, 2, 2), ("index", 0, 1, 0, 2, 1), ("load", DIGIT), ("drop",))
        self.right(("at", 17), ("index", 0, 1, 0, 2, 1), ("index", 0, 1, 0, 2, 2), ("load", DIGIT), ("drop",))
        self.wrong("field", ("at", 17), ("index", 0, 1, 0, 2, 2), ("index", 0, 1, 0, 3, 1), ("load", DIGIT))
        self.right(("at", 22), ("index", 0, 1, 0, 2, 2), ("index", 0, 1, 0, 2, 2), ("load", DIGIT), ("drop",))
        self.wrong("field", ("at", 22), ("index", 0, 1, 0, 3, 2), ("index", 0, 1, 0, 2, 2), ("load", DIGIT))

    def test_707_many(self):
        storage = [DIGIT] * 20000
        for indexes, is_right in [([(10000, 1)], True), ([(10001, 1)], False), ([(100, 1), (100, 1)], True), ([(100, 100), (100, 1)], True), ([(101, 1), (100, 1)], False),
                                  ([(100, 1), (101, 1)], False), ([(10 ** 9, 1)], False), ([(10000, 1), (1, 5)], True), ([(10000, 1), (2, 5)], False)]:
            rows = [("at", 0)] + [("index", 0, 1, 0, times, size) for times, size in indexes]
            for use in [("load", DIGIT), ("digits", 1)]:
                code = code_of(rows + [use, ("drop",)], storage)
                if is_right:
                    self.assertIsNone(examine(code), indexes)
                else:
                    self.check_fault(len(rows), "many", code)
        # Only an address that is needed has too many of them.
        self.right(("at", 0), MANY, ("halt", "end"))

    def test_708_many_comes_behind_address_and_ahead_of_the_rest(self):
        for instruction in [("load", TWO), ("keep", TWO), ("try", TWO), ("digits", 10 ** 9), ("show-text", 10 ** 9), ("divide", 0, 0, TWO, False, None)]:
            self.wrong("many", ("at", 500), MANY, instruction)
        for instruction in [("texts", 50, 50), ("copy", 50, 50), ("figures", EDITED, 50)]:
            self.wrong("many", N, ("at", 500), MANY, instruction)
            self.wrong("many", ("at", 500), MANY, ("at", 500), instruction)
        self.wrong("many", ("at", 500), MANY, ("index", 0, 1, 0, 2, 1))
        self.wrong("field", ("at", 500), MANY, ("index", 0, 2, 0, 2, 1))


class TestTexts(ExamineCase):
    def test_707_shapes(self):
        for offset, size in [(0, 1), (0, 3), (0, 12), (12, 3), (12, 5), (17, 4), (17, 10), (27, 2), (27, 10), (0, 37), (26, 3)]:
            self.right(("at", offset), ("digits", size), ("drop",))
            self.right(("at", offset), ("show-text", size))
            self.right(("at", offset), ("at", 0), ("texts", size, 1), ("drop",))
            self.right(("at", 0), ("at", offset), ("texts", 1, size), ("drop",))
        for offset, size in [(0, 2), (1, 1), (2, 1), (12, 2), (12, 4), (13, 2), (36, 2), (37, 1), (0, 38), (10 ** 9, 1), (0, 10 ** 9)]:
            self.wrong("shape", ("at", offset), ("digits", size))
            self.wrong("shape", ("at", offset), ("show-text", size))
            self.wrong("shape", ("at", offset), ("at", 0), ("texts", size, 1))
            self.wrong("shape", ("at", 0), ("at", offset), ("texts", 1, size))

    def test_707_the_same_shape_at_each_offset(self):
        self.right(("at", 21), ("index", 0, 1, 0, 3, 2), ("show-text", 2))
        self.right(("at", 21), ("index", 0, 1, 0, 3, 2), ("show-text", 1))
        self.wrong("shape", ("at", 21), ("index", 0, 1, 0, 4, 2), ("show-text", 1))
        self.wrong("shape", ("at", 21), ("index", 0, 1, 0, 2, 1), ("show-text", 1))
        self.wrong("shape", ("at", 1), ("index", 0, 1, 0, 2, 14), ("show-text", 2))
        self.wrong("shape", ("at", 17), ("index", 0, 1, 0, 2, 1), ("show-text", 4))
        self.right(("at", 17), ("index", 0, 1, 0, 2, 1), ("show-text", 3))
        self.wrong("shape", ("at", 0), ("at", 21), ("index", 0, 1, 0, 2, 1), ("texts", 1, 1))
        self.wrong("shape", ("at", 21), ("index", 0, 1, 0, 2, 1), ("at", 0), ("texts", 1, 1))
        self.wrong("shape", ("at", 21), ("index", 0, 1, 0, 2, 1), ("digits", 1))

    def test_708_texts(self):
        self.wrong("address", ("at", 2), N, ("texts", 1, 1))
        self.wrong("address", N, ("at", 2), ("texts", 1, 1))
        self.wrong("shape", ("at", 0), ("at", 2), ("texts", 1, 1))
        self.wrong("shape", ("at", 2), ("at", 0), ("texts", 1, 1))

    def test_707_copy(self):
        for source, size, target, room in [(0, 1, 12, 3), (0, 12, 12, 3), (12, 5, 15, 2), (27, 2, 12, 3), (27, 2, 15, 2), (29, 2, 1, 2), (1, 2, 1, 2), (31, 1, 17, 1),
                                           (17, 3, 18, 3), (21, 2, 23, 2), (35, 2, 21, 2), (12, 5, 12, 5)]:
            self.right(("at", source), ("at", target), ("copy", size, room))
        for source, size, target, room in [(0, 1, 1, 2), (12, 3, 12, 5), (1, 2, 12, 5), (17, 4, 17, 3), (17, 3, 17, 4), (12, 3, 0, 1), (15, 2, 1, 2), (1, 2, 17, 2)]:
            self.wrong("copy", ("at", source), ("at", target), ("copy", size, room))
        self.right(("at", 21), ("index", 0, 1, 0, 2, 2), ("at", 23), ("index", 0, 1, 0, 2, 2), ("copy", 2, 2))
        self.right(("at", 17), ("index", 0, 1, 0, 2, 2), ("at", 21), ("index", 0, 1, 0, 3, 2), ("copy", 1, 1))

    def test_708_copy(self):
        # The target's address, the source's one, the storage, the source's shape, the target's one, and whether they suit.
        self.wrong("address", ("at", 2), N, ("copy", 1, 1))
        self.wrong("address", N, ("at", 2), ("copy", 1, 1))
        self.wrong("many", ("at", 2), MANY, ("at", 30), ("copy", 1, 1))
        self.wrong("constant", ("at", 2), ("at", 30), ("copy", 1, 1))
        self.wrong("constant", ("at", 2), ("at", 26), ("copy", 1, 2))
        self.wrong("constant", ("at", 0), ("at", 27), ("copy", 1, 2))
        self.wrong("constant", ("at", 0), ("at", 21), ("index", 0, 1, 0, 4, 2), ("copy", 1, 1))
        self.wrong("shape", ("at", 2), ("at", 12), ("copy", 1, 3))
        self.wrong("shape", ("at", 0), ("at", 12), ("copy", 1, 2))
        self.wrong("shape", ("at", 0), ("at", 2), ("copy", 1, 1))

    def test_707_figures(self):
        self.right(("at", 3), ("at", 12), ("figures", SIGNED, 3))
        self.right(("at", 29), ("at", 15), ("figures", TWO, 2))
        self.right(("at", 17), ("index", 0, 1, 0, 4, 1), ("at", 21), ("index", 0, 1, 0, 3, 2), ("figures", DIGIT, 1))
        for source, target, picture, room in [(7, 12, EDITED, 3), (3, 12, TWO, 3), (4, 12, SIGNED, 3), (15, 12, TWO, 3), (3, 15, SIGNED, 3), (3, 12, SIGNED, 2), (3, 12, SIGNED, 5),
                                              (3, 1, SIGNED, 2), (3, 13, SIGNED, 2)]:
            self.wrong("field", ("at", source), ("at", target), ("figures", picture, room))
        self.wrong("field", ("at", 17), ("index", 0, 1, 0, 5, 1), ("at", 12), ("figures", DIGIT, 3))
        self.wrong("field", ("at", 17), ("at", 21), ("index", 0, 1, 0, 2, 1), ("figures", DIGIT, 1))

    def test_708_figures(self):
        self.wrong("address", ("at", 30), N, ("figures", EDITED, 3))
        self.wrong("address", N, ("at", 30), ("figures", EDITED, 3))
        self.wrong("many", ("at", 3), MANY, ("at", 30), ("figures", EDITED, 3))
        self.wrong("constant", ("at", 3), ("at", 30), ("figures", EDITED, 3))
        self.wrong("constant", ("at", 3), ("at", 27), ("figures", SIGNED, 2))
        self.wrong("constant", ("at", 3), ("at", 26), ("figures", SIGNED, 2))
        self.wrong("constant", ("at", 3), ("at", 32), ("figures", TWO, 3))


class TestFiles(ExamineCase):
    def test_707_read(self):
        self.right(("read", "f", 12, 5, CELLS), ("drop",))
        self.right(("read", "f", 0, 1, ((0, DIGIT),)), ("drop",))
        for name in ["g", "h", "", "r", "input"]:
            self.wrong("file", ("read", name, 12, 5, CELLS))
        for offset, size in [(27, 2), (26, 3), (12, 16), (10 ** 9, 1), (0, 10 ** 9)]:
            self.wrong("constant", ("read", "f", offset, size, CELLS))
        for offset, size in [(12, 4), (13, 4), (11, 6), (2, 1)]:
            self.wrong("shape", ("read", "f", offset, size, CELLS))
        for cells in [(), CELLS[:1], CELLS[1:], CELLS + ((5, DIGIT),), ((3, T2), (0, T3)), ((12, T3), (15, T2)), ((0, T2), (3, T2)), ((0, T3), (4, T2)), ((0, ("text", 5)),)]:
            self.wrong("read", ("read", "f", 12, 5, cells))
        self.wrong("stack", ("read", "f", 12, 5, CELLS), ("leave", 0))

    def test_708_read(self):
        self.wrong("file", ("read", "g", 26, 3, ()))
        self.wrong("constant", ("read", "f", 28, 1, ()))
        self.wrong("shape", ("read", "f", 13, 2, ()))

    def test_707_write(self):
        self.right(("write", "g", 12, 5))
        self.right(("write", "g", 0, 27))
        # What is only read may be constant.
        self.right(("write", "g", 27, 4))
        for name in ["f", "h", "", "r", "output"]:
            self.wrong("file", ("write", name, 12, 5))
            self.wrong("file", ("write", name, 13, 5))
        for offset, size in [(12, 4), (13, 4), (11, 6), (2, 1), (37, 1), (36, 2)]:
            self.wrong("shape", ("write", "g", offset, size))

    def test_707_files(self):
        both = (("output", "f", "r"), ("input", "g", "r"), ("input", "f", "r"))
        self.assertIsNone(examine(code_of([("read", "f", 12, 5, CELLS), ("drop",), ("write", "f", 12, 5)], STORAGE, CONSTANTS, both)))
        self.check_fault(0, "file", code_of([("write", "g", 12, 5)], STORAGE, CONSTANTS, both))


class TestSort(ExamineCase):
    def test_707_sort(self):
        self.right(("sort", 17, 1, 4, 0, DIGIT, False))
        self.right(("sort", 21, 2, 3, 0, T1, True))
        self.right(("sort", 21, 2, 3, 1, DIGIT, True))
        self.right(("sort", 20, 2, 3, 0, DIGIT, False))
        self.wrong("shape", ("sort", 0, 1, 2, 0, DIGIT, False))
        for rows in [("sort", 17, 1, 10001, 0, DIGIT, False), ("sort", 17, 1, 4, 1, DIGIT, False), ("sort", 21, 2, 3, 2, DIGIT, False), ("sort", 21, 2, 3, 10 ** 9, DIGIT, False)]:
            self.wrong("sort", rows)
        for rows in [("sort", 17, 1, 5, 0, DIGIT, False), ("sort", 19, 2, 3, 0, DIGIT, False), ("sort", 21, 1, 2, 0, T1, False), ("sort", 21, 3, 2, 0, T1, False),
                     ("sort", 16, 1, 2, 0, DIGIT, False), ("sort", 21, 2, 4, 0, T1, False)]:
            self.wrong("shape", rows)
        for rows in [("sort", 31, 1, 1, 0, DIGIT, False), ("sort", 27, 2, 1, 0, T2, False), ("sort", 32, 3, 1, 0, T3, True)]:
            self.wrong("constant", rows)
        for rows in [("sort", 17, 1, 4, 0, TWO, False), ("sort", 21, 2, 3, 0, DIGIT, True), ("sort", 21, 2, 3, 1, T1, True), ("sort", 12, 5, 1, 1, T2, False)]:
            self.wrong("field", rows)

    def test_707_most_occurrences(self):
        for times, is_right in [(10000, True), (10001, False)]:
            code = code_of([("sort", 0, 1, times, 0, DIGIT, False)], [DIGIT] * 10001)
            if is_right:
                self.assertIsNone(examine(code))
            else:
                self.check_fault(0, "sort", code)

    def test_707_occurrences_that_reach_into_the_constants(self):
        code = code_of([("sort", 0, 1, 3, 0, DIGIT, False)], [DIGIT, DIGIT], [(DIGIT, "5")])
        self.check_fault(0, "constant", code)
        self.assertIsNone(examine(code_of([("sort", 0, 1, 2, 0, DIGIT, False)], [DIGIT, DIGIT], [(DIGIT, "5")])))

    def test_708_sort(self):
        self.wrong("sort", ("sort", 28, 2, 3, 2, TWO, False))
        self.wrong("shape", ("sort", 28, 2, 1, 0, TWO, False))
        self.wrong("constant", ("sort", 29, 2, 1, 0, DIGIT, False))


class TestWays(ExamineCase):
    def test_707_jumps_out_of_the_paragraph(self):
        for target in [2, 3, 10 ** 9 - 1]:
            self.check_fault(1, "jump", code_of([("step", 1), ("jump", target + 1)]))
            self.check_fault(1, "jump", code_of([N, ("zero", target + 1)]))
        code = code_of_paragraphs([[("step", 1)], [("step", 1), ("jump", 1)], []])
        self.check_fault(3, "jump", code)
        for target, is_right in [(1, False), (2, True), (3, True), (4, True), (5, False), (0, False)]:
            for rows in [[("jump", target), ("step", 1)], [("zero", target)]]:
                before = [] if rows[0][0] == "jump" else [N]
                code = code_of_paragraphs([[("step", 1)], before + rows, []])
                if rows == [("zero", 3)]:
                    self.check_fault(3, "meeting", code)
                elif is_right:
                    self.assertIsNone(examine(code), code.instructions)
                else:
                    self.check_fault(2 + len(before), "jump", code)

    def test_707_no_place_next(self):
        self.right(("halt", "end"))
        self.right(N, ("halt", "any"), ("add",))
        self.right(("at", 0), ("halt", "end"))
        # A `leave` in the middle goes on.
        self.wrong("number", ("leave", 0), ("add",))
        self.check_fault(1, "number", code_of_paragraphs([[("leave", 1), ("add",)], []]))

    def test_707_meeting(self):
        # 0 push, 1 zero 3, 2 push, 3 ..: at 3 with and without a number.
        self.check_fault(2, "meeting", code_of([N, ("zero", 3), N]))
        self.assertIsNone(examine(code_of([N, ("zero", 4), N, ("drop",)])))
        self.check_fault(2, "meeting", code_of([("step", 1), N, ("jump", 0)]))
        self.assertIsNone(examine(code_of([("step", 1), N, ("drop",), ("jump", 0)])))
        self.check_fault(2, "meeting", code_of([N, ("step", 1), ("zero", 1)]))

    def meet(self, *ways):
        """Return code in which two ways meet."""
        first, second = ways
        rows = [N, ("zero", 3 + len(first))] + list(first) + [("jump", 3 + len(first) + len(second))] + list(second) + [("halt", "end")]
        return code_of(rows, STORAGE, CONSTANTS, FILES)

    def test_707_meeting_of_kinds(self):
        index, other = ("index", 0, 1, 0, 3, 2), ("index", 1, 2, 1, 3, 2)
        for first, second in [([N], [N]), ([("push", 7)], [("read", "f", 12, 5, CELLS)]), ([("at", 0)], [("at", 0)]), ([("at", 21), index], [("at", 21), index]),
                              ([("at", 21), index], [("at", 21), other]), ([N, ("at", 0)], [("push", 1), ("at", 0)]), ([], [])]:
            self.assertIsNone(examine(self.meet(first, second)))
        for first, second in [([N], []), ([N], [("at", 0)]), ([("at", 0)], [("at", 1)]), ([("at", 21), index], [("at", 21)]), ([N, ("at", 0)], [("at", 0), N]),
                              ([("at", 21), index], [("at", 21), ("index", 0, 1, 0, 2, 2)]), ([("at", 21), index], [("at", 21), ("index", 0, 1, 0, 3, 1)]),
                              ([("at", 21), index], [("at", 23), index]), ([N, N], [N])]:
            code = self.meet(first, second)
            with self.assertRaises(BadCode) as caught:
                examine(code)
            ends = (2 + len(first), code.length() - 3)
            self.assertEqual(caught.exception.reason, "meeting")
            self.assertIn(caught.exception.place, ends)

    def test_707_jump_comes_ahead_of_meeting(self):
        self.check_fault(2, "jump", code_of([N, N, ("zero", 9)]))
        self.check_fault(1, "jump", code_of([N, ("zero", 7), N, ("jump", 0)]))
        # Both reasons at one instruction, whatever way is followed first.
        self.check_fault(1, "jump", code_of([("jump", 2), ("zero", 99), N, N, ("jump", 1)]))
        self.check_fault(1, "meeting", code_of([("jump", 2), ("zero", 5), N, N, ("jump", 1)]))

    def test_707_the_stack_comes_ahead_of_the_next_places(self):
        self.wrong("number", ("zero", 99))
        self.wrong("number", ("at", 0), ("zero", 99))

    def test_707_call(self):
        for first, last, is_right in [(0, 0, True), (0, 2, True), (1, 1, True), (2, 2, True), (1, 2, True), (2, 1, False), (1, 0, False), (0, 3, False), (3, 3, False), (10 ** 9, 10 ** 9, False)]:
            for stack in [[], [N], [N, ("at", 0)]]:
                rows = stack + [("call", first, last), ("halt", "end")]
                code = code_of_paragraphs([rows, [], []], STORAGE)
                if is_right:
                    self.assertIsNone(examine(code))
                else:
                    self.check_fault(len(stack), "call", code)

    def test_707_call_keeps_the_stack(self):
        self.right(N, ("call", 0, 0), ("drop",))
        self.wrong("stack", N, ("call", 0, 0), ("leave", 0))
        # The paragraph that is called begins with an empty stack.
        self.check_fault(4, "number", code_of_paragraphs([[N, ("call", 1, 1), ("drop",)], [("drop",)]]))

    def test_707_leave(self):
        self.check_fault(1, "stack", code_of([N]))
        self.check_fault(2, "stack", code_of([N, ("at", 0)]))
        self.wrong("stack", N, ("leave", 0))
        self.wrong("stack", ("leave", 1))
        self.wrong("stack", ("leave", 10 ** 9))
        self.right(("leave", 0))
        self.assertIsNone(examine(code_of_paragraphs([[("leave", 1)], [("leave", 0)]])))
        self.check_fault(0, "stack", code_of_paragraphs([[("leave", 2)], [("leave", 0)]]))

    def test_3_what_is_passed_stays(self):
        code = code_of([N, ("at", 0), ("keep", DIGIT)], STORAGE, CONSTANTS, FILES)
        before = (code.files, code.size, code.constants, dict(code.cells), code.starts, code.instructions)
        examine(code)
        self.assertEqual((code.files, code.size, code.constants, code.cells, code.starts, code.instructions), before)
        self.assertEqual(cells_of(STORAGE)[3], (7, EDITED))


if __name__ == "__main__":
    unittest.main()
