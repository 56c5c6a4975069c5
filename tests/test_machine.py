import unittest

from cardwright.code import Code
from cardwright.machine import run_code
from codes import DIGIT, EDITED, SIGNED, TWO, CodeCase, code_of, code_of_paragraphs

RELATIONS = [("=", [0]), ("<", [-1]), (">", [1]), ("<=", [-1, 0]), (">=", [0, 1]), ("<>", [-1, 1])]
BIG = 10 ** 60


class TestNumbers(CodeCase):
    def test_702_step(self):
        code = code_of([("step", 5), ("step", 2)])
        for steps, end, left in [(0, "steps", 0), (4, "steps", 0), (5, "steps", 0), (6, "steps", 0), (7, "end", 0), (8, "end", 1), (10 ** 9, "end", 10 ** 9 - 7)]:
            self.check_code(code, "", steps=steps, end=end, left=left)
        self.check_code(code_of([("step", 10 ** 9)]), "", steps=10 ** 9 - 1, end="steps", left=0)
        self.check_code(code_of([("step", 10 ** 9)]), "", steps=10 ** 9, left=0)
        self.check_code(code_of([("push", 1), ("show-number", 0), ("show-line",), ("step", 1), ("push", 2), ("show-number", 0), ("show-line",)]), "",
                        steps=0, end="steps", shown=("1",))

    def test_702_push(self):
        for number in [0, 1, -1, BIG, -BIG]:
            self.check_numbers([("push", number)], [number])
        self.check_numbers([("push", 1), ("push", 2)], [2, 1])

    def test_702_scale(self):
        self.check_numbers([("push", -7), ("scale", 3)], [-7000])
        self.check_numbers([("push", 7), ("scale", 0)], [7])
        self.check_numbers([("push", 7), ("scale", 1000)], [7 * 10 ** 1000])

    def test_702_cut_and_round(self):
        for units, power, cut, rounded in [(1250, 2, 12, 13), (1249, 2, 12, 12), (-1250, 2, -12, -13), (-1249, 2, -12, -12), (-49, 2, 0, 0), (-50, 2, 0, -1),
                                           (7, 0, 7, 7), (-7, 0, -7, -7), (99, 1000, 0, 0), (0, 5, 0, 0)]:
            self.check_numbers([("push", units), ("cut", power)], [cut])
            self.check_numbers([("push", units), ("round", power)], [rounded])

    def test_702_reckoning(self):
        self.check_numbers([("push", 7), ("push", -3), ("add",)], [4])
        self.check_numbers([("push", 7), ("push", -3), ("subtract",)], [10])
        self.check_numbers([("push", 7), ("push", -3), ("multiply",)], [-21])
        self.check_numbers([("push", BIG), ("double",), ("multiply",)], [BIG * BIG])
        self.check_numbers([("push", 7), ("negate",)], [-7])
        self.check_numbers([("push", 0), ("negate",)], [0])
        self.check_numbers([("push", 5), ("push", 7), ("double",)], [7, 7, 5])
        self.check_numbers([("push", 5), ("push", 7), ("drop",)], [5])
        self.check_numbers([("push", 9), ("push", 7), ("push", 3), ("subtract",)], [4, 9])

    def test_702_test(self):
        for op, signs in RELATIONS:
            for number in [0, 1, -1, 5, -5, BIG, -BIG]:
                sign = (number > 0) - (number < 0)
                self.check_numbers([("push", number), ("test", op)], [1 if sign in signs else 0])

    def test_702_trim(self):
        for picture, units, result in [(TWO, 123, 23), (TWO, -123, 23), (SIGNED, -12345, -345), (SIGNED, 12345, 345), (EDITED, -12345, -345), (DIGIT, 10, 0),
                                       (DIGIT, 9, 9), (SIGNED, -1000, 0)]:
            self.check_numbers([("push", units), ("trim", picture)], [result])

    def test_702_big_numbers_are_shown(self):
        code = code_of([("push", -7)] + [("scale", 1000)] * 6 + [("show-number", 1000), ("show-line",)])
        self.check_code(code, "", shown=("-7" + "0" * 5000,))


class TestFields(CodeCase):
    STORAGE = [DIGIT, TWO, SIGNED, EDITED]
    TEXT = "512-123 7.5 "

    def check_fields(self, rows, memory, shown=()):
        self.check_code(code_of(rows, self.STORAGE), self.TEXT, memory=memory, shown=shown)

    def test_702_load(self):
        show = [("show-number", 0), ("show-line",)]
        rows = [("at", 0), ("load", DIGIT)] + show + [("at", 1), ("load", TWO)] + show + [("at", 3), ("load", SIGNED)] + show + [("at", 7), ("load", EDITED)] + show
        self.check_fields(rows, self.TEXT, ("5", "12", "-123", "75"))

    def test_702_keep(self):
        self.check_fields([("push", 7), ("at", 0), ("keep", DIGIT)], "712-123 7.5 ")
        self.check_fields([("push", -17), ("at", 0), ("keep", DIGIT)], "712-123 7.5 ")
        self.check_fields([("push", -12345), ("at", 3), ("keep", SIGNED)], "512-345 7.5 ")
        self.check_fields([("push", -12345), ("at", 7), ("keep", EDITED)], "512-12334.5-")
        self.check_fields([("push", 0), ("at", 3), ("keep", SIGNED)], "512+000 7.5 ")
        self.check_fields([("push", 1), ("push", 7), ("at", 0), ("keep", DIGIT), ("show-number", 0), ("show-line",)], "712-123 7.5 ", ("1",))

    def test_702_try(self):
        show = [("show-number", 0), ("show-line",)]
        for units, picture, offset, memory in [
                (7, DIGIT, 0, "712-123 7.5 "), (10, DIGIT, 0, None), (-1, DIGIT, 0, None), (0, DIGIT, 0, "012-123 7.5 "), (-999, SIGNED, 3, "512-999 7.5 "),
                (1000, SIGNED, 3, None), (-1000, SIGNED, 3, None), (-5, EDITED, 7, "512-123 0.5-"), (1000, EDITED, 7, None)]:
            self.check_fields([("push", units), ("at", offset), ("try", picture)] + show, self.TEXT if memory is None else memory, ("0" if memory is None else "1",))

    def test_702_index(self):
        storage = [DIGIT, TWO, DIGIT, DIGIT, DIGIT, TWO]
        for field, digits, shift, index in [(0, 1, 0, 2), (0, 1, 1, 3), (0, 1, -1, 1), (1, 2, -10, 1), (1, 2, -9, 2)]:
            code = code_of([("at", 3), ("index", field, digits, shift, 3, 1), ("load", DIGIT), ("show-number", 0), ("show-line",)], storage)
            self.check_code(code, "21178900", shown=(str(6 + index),), memory="21178900")

    def test_702_index_edges(self):
        storage = [DIGIT, DIGIT, DIGIT, DIGIT]
        for value, shift, good in [(0, 0, False), (1, 0, True), (3, 0, True), (4, 0, False), (1, -1, False), (2, -1, True), (4, -1, True), (5, -1, False),
                                   (0, 1, True), (2, 1, True), (3, 1, False), (0, BIG, False), (9, -BIG, False)]:
            code = code_of([("push", 7), ("at", 1), ("index", 0, 1, shift, 3, 1), ("keep", DIGIT)], storage)
            memory = f"{value}000"
            if good:
                at = value + shift
                memory = memory[:at] + "7" + memory[at + 1:]
            self.check_code(code, f"{value}000", end="end" if good else "index", memory=memory, left=100)

    def test_702_two_indexes(self):
        storage = [DIGIT, DIGIT] + [DIGIT] * 6
        for row in (1, 2):
            for at in (1, 2, 3):
                code = code_of([("at", 2), ("index", 0, 1, 0, 2, 3), ("index", 1, 1, 0, 3, 1), ("load", DIGIT), ("show-number", 0), ("show-line",)], storage)
                self.check_code(code, f"{row}{at}123456", shown=(str(3 * row + at - 3),))


class TestDivide(CodeCase):
    STORAGE = [SIGNED, SIGNED, DIGIT]

    def check_divide(self, a, first, b, second, divide, targets, result, memory):
        rows = [("push", 77), ("push", a), ("push", b)] + [("at", offset) for offset in targets] + [("divide", first, second) + divide]
        rows += [("show-number", 0), ("show-line",)] * 2
        self.check_code(code_of(rows, self.STORAGE), "+000+0005", shown=(str(result), "77"), memory=memory)

    def test_702_divide(self):
        self.check_divide(7, 0, 2, 0, (SIGNED, False, None), [0], 1, "+035+0005")
        self.check_divide(2, 0, 3, 0, (SIGNED, False, None), [0], 1, "+006+0005")
        self.check_divide(2, 0, 3, 0, (SIGNED, True, None), [0], 1, "+007+0005")
        self.check_divide(-2, 0, 3, 0, (SIGNED, True, None), [4], 1, "+000-0075")
        # Scales that are not the least ones, and differ.
        self.check_divide(700, 2, 2000, 3, (SIGNED, False, None), [0], 1, "+035+0005")
        self.check_divide(7, 1, 2, 0, (SIGNED, False, None), [0], 1, "+003+0005")
        self.check_divide(7, 0, 2, 1, (SIGNED, False, None), [0], 1, "+350+0005")

    def test_702_divide_with_remainder(self):
        self.check_divide(7, 0, 2, 0, (DIGIT, False, SIGNED), [8, 0], 1, "+010+0003")
        self.check_divide(7, 0, 2, 0, (DIGIT, True, SIGNED), [8, 0], 1, "+010+0004")
        self.check_divide(-7, 0, 2, 0, (SIGNED, False, SIGNED), [0, 4], 1, "-035+0005")
        self.check_divide(-73, 1, 2, 0, (SIGNED, False, SIGNED), [4, 0], 1, "-001-0365")
        # The quotient is written first, then the remainder.
        self.check_divide(7, 0, 3, 0, (SIGNED, False, SIGNED), [4, 4], 1, "+000+0015")

    def test_702_divide_that_does_not_suit(self):
        same = "+000+0005"
        self.check_divide(7, 0, 0, 0, (SIGNED, False, None), [0], 0, same)
        self.check_divide(0, 0, 0, 3, (SIGNED, False, SIGNED), [0, 4], 0, same)
        self.check_divide(100, 0, 1, 0, (SIGNED, False, None), [0], 0, same)
        self.check_divide(10, 0, 1, 0, (DIGIT, False, SIGNED), [8, 0], 0, same)
        self.check_divide(-1, 0, 2, 0, (SIGNED, False, DIGIT), [0, 8], 1, "-005+0000")
        self.check_divide(-1, 0, 10, 0, (DIGIT, False, DIGIT), [8, 8], 0, same)
        self.check_divide(995, 1, 10, 0, (DIGIT, True, None), [8], 0, same)
        self.check_divide(995, 1, 100, 0, (DIGIT, True, SIGNED), [8, 0], 1, "+995+0001")


class TestTexts(CodeCase):
    T3 = ("text", 3)
    T2 = ("text", 2)

    def test_702_copy(self):
        for source, size, target, room, memory in [(0, 3, 3, 2, "abcab78"), (3, 2, 0, 3, "xy xy78"), (0, 3, 0, 3, "abcxy78"), (5, 2, 0, 3, "78 xy78"), (5, 2, 3, 2, "abc7878"),
                                                   (3, 4, 0, 3, "xy7xy78"), (0, 5, 3, 2, "abcab78")]:
            code = code_of([("at", source), ("at", target), ("copy", size, room)], [self.T3, self.T2, TWO])
            self.check_code(code, "abcxy78", memory=memory)

    def test_702_copy_of_a_shape(self):
        code = code_of([("at", 0), ("at", 3), ("copy", 3, 3)], [TWO, ("text", 1), TWO, ("text", 1)])
        self.check_code(code, "12a34b", memory="12a12a")
        code = code_of([("at", 2), ("at", 0), ("copy", 2, 2)], [TWO], [(TWO, "77")])
        self.check_code(code, "12", memory="77")

    def test_702_constants(self):
        code = code_of([("at", 3), ("at", 0), ("copy", 2, 3), ("at", 5), ("load", DIGIT), ("show-number", 0), ("show-line",)], [self.T3], [(self.T2, "it"), (DIGIT, "7")])
        self.check_code(code, "abc", memory="it ", shown=("7",))

    def test_702_figures(self):
        for picture, text, size, result in [(SIGNED, "-123", 3, "123"), (SIGNED, "+123", 5, "123  "), (SIGNED, "-123", 2, "12"), (TWO, "07", 2, "07"), (TWO, "07", 1, "0"),
                                            (TWO, "07", 4, "07  ")]:
            code = code_of([("at", 0), ("at", len(text)), ("figures", picture, size)], [picture, ("text", size)])
            self.check_code(code, text + "?" * size, memory=text + result)

    def test_702_texts(self):
        for first, second, result in [("abc", "ab", 1), ("ab ", "ab", 0), ("aa~", "ab", -1), ("ABC", "ab", -1), ("   ", "  ", 0), ("b  ", "ab", 1), ("ab!", "ab", 1)]:
            show = [("show-number", 0), ("show-line",)]
            code = code_of([("at", 0), ("at", 3), ("texts", 3, 2)] + show + [("at", 3), ("at", 0), ("texts", 2, 3)] + show, [self.T3, self.T2])
            self.check_code(code, first + second, shown=(str(result), str(-result)))

    def test_702_digits(self):
        for text, result in [("123", 1), ("000", 1), ("12 ", 0), ("1a2", 0), ("-12", 0), ("   ", 0)]:
            self.check_code(code_of([("at", 0), ("digits", 3), ("show-number", 0), ("show-line",)], [self.T3]), text, shown=(str(result),))

    def test_702_show(self):
        for units, scale, text in [(0, 0, "0"), (-5, 0, "-5"), (125, 2, "1.25"), (1200, 2, "12"), (1250, 3, "1.25"), (-5, 3, "-0.005"), (0, 7, "0"), (1, 1000, "0." + "0" * 999 + "1")]:
            self.check_code(code_of([("push", units), ("show-number", scale), ("show-line",)]), "", shown=(text,))
        rows = [("show-line",), ("at", 0), ("show-text", 3), ("push", 7), ("show-number", 0), ("at", 3), ("show-text", 2), ("show-line",), ("at", 0), ("show-text", 5), ("show-line",)]
        self.check_code(code_of(rows, [self.T3, self.T2]), "ab xy", shown=("", "ab 7xy", "ab xy"))
        # A line that is not finished is not shown.
        self.check_code(code_of([("push", 7), ("show-number", 0)]), "", shown=())
        self.check_code(code_of([("push", 7), ("show-number", 0), ("halt", "stop")]), "", end="stop", shown=())


class TestFiles(CodeCase):
    FILES = (("input", "f", "r"), ("output", "g", "r"), ("input", "h", "r"), ("output", "e", "r"))
    STORAGE = [("text", 1), TWO, ("text", 2)]
    CELLS = ((0, TWO), (2, ("text", 2)))

    def test_702_read(self):
        read = [("read", "f", 1, 4, self.CELLS), ("show-number", 0), ("show-line",), ("at", 1), ("show-text", 4), ("show-line",)]
        code = code_of(read * 6, self.STORAGE, (), self.FILES)
        self.check_code(code, "x00  ", lines={"f": ("12ab", "x", "34", "12abc", "56  "), "h": ("99",)}, left=100, memory="x56  ",
                        shown=("0", "12ab", "1", "12ab", "0", "34  ", "1", "34  ", "0", "56  ", "2", "56  "))

    def test_702_each_file_by_itself(self):
        rows = []
        for name in ["f", "h", "f", "h"]:
            rows += [("read", name, 1, 4, self.CELLS), ("show-number", 0), ("at", 1), ("show-text", 4), ("show-line",)]
        self.check_code(code_of(rows, self.STORAGE, (), self.FILES), "x00  ", lines={"f": ("11", "22"), "h": ("33",)}, shown=("011  ", "033  ", "022  ", "222  "))

    def test_702_write(self):
        rows = [("write", "g", 1, 4), ("write", "e", 0, 1), ("push", 7), ("at", 1), ("keep", TWO), ("write", "g", 0, 5)]
        self.check_code(code_of(rows, self.STORAGE, (), self.FILES), "x12ab", lines={"f": (), "h": ()}, outputs=(("g", ("12ab", "x07ab")), ("e", ("x",))))
        self.check_code(code_of([], self.STORAGE, (), self.FILES), "x12ab", lines={"f": (), "h": ()}, outputs=(("g", ()), ("e", ())))

    def test_703_what_is_passed_stays(self):
        lines = {"f": ("11", "22"), "h": ("33",)}
        code = code_of([("read", "f", 1, 4, self.CELLS), ("drop",), ("write", "g", 1, 4)], self.STORAGE, (), self.FILES)
        instructions, cells = code.instructions, dict(code.cells)
        outcome = run_code(code, "x00  ", lines, 5)
        self.assertEqual(outcome, ("end", 5, "x11  ", (("g", ("11  ",)), ("e", ())), ()))
        self.assertEqual(run_code(code, "x00  ", lines, 5), outcome)
        self.assertEqual(lines, {"f": ("11", "22"), "h": ("33",)})
        self.assertEqual((code.instructions, code.cells), (instructions, cells))


class TestSort(CodeCase):
    def test_702_sort_fields(self):
        for descending, memory in [(False, "x-12-03+03+07"), (True, "x+07+03-03-12")]:
            code = code_of([("sort", 1, 3, 4, 0, ("number", True, 2, 0), descending)], [("text", 1)] + [("number", True, 2, 0)] * 4)
            self.check_code(code, "x+03-12+07-03", memory=memory)

    def test_702_sort_groups_keeps_the_order_of_equal_keys(self):
        storage = [("text", 1), DIGIT] * 5 + [DIGIT]
        text = "a3b1c3a2b37"
        for key, picture, descending, memory in [(1, DIGIT, False, "b1a2a3c3b37"), (1, DIGIT, True, "a3c3b3a2b17"), (0, ("text", 1), False, "a3a2b1b3c37"),
                                                 (0, ("text", 1), True, "c3b1b3a3a27")]:
            self.check_code(code_of([("sort", 0, 2, 5, key, picture, descending)], storage), text, memory=memory)

    def test_702_sort_by_edited_keys(self):
        code = code_of([("sort", 0, 5, 3, 0, EDITED, False)], [EDITED] * 3)
        self.check_code(code, " 7.5 10.0- 2.5-", memory="10.0- 2.5- 7.5 ")
        code = code_of([("sort", 0, 5, 3, 0, EDITED, True)], [EDITED] * 3)
        self.check_code(code, " 7.5 10.0- 2.5-", memory=" 7.5  2.5-10.0-")


class TestPlaces(CodeCase):
    def shown(self, number):
        return [("push", number), ("show-number", 0), ("show-line",)]

    def test_702_jump(self):
        self.check_code(code_of([("jump", 4)] + self.shown(1) + self.shown(2)), "", shown=("2",))
        code = code_of([("step", 1), ("jump", 0)])
        self.check_code(code, "", end="steps", left=0, steps=5)

    def test_702_zero(self):
        for number, shown in [(0, ("2",)), (1, ("1", "2")), (-1, ("1", "2")), (BIG, ("1", "2"))]:
            self.check_code(code_of([("push", number), ("zero", 5)] + self.shown(1) + self.shown(2)), "", shown=shown)

    def test_702_halt(self):
        for end in ["stop", "end", "steps", "", "any other end"]:
            self.check_code(code_of([("step", 1), ("halt", end)] + self.shown(1)), "", end=end, left=99, shown=())

    def test_703_calls(self):
        a, b, c = self.shown(1), self.shown(2), self.shown(3)
        for first, last, shown in [(1, 1, "1"), (1, 2, "12"), (1, 3, "123"), (2, 2, "2"), (2, 3, "23"), (3, 3, "3")]:
            code = code_of_paragraphs([self.shown(0) + [("call", first, last)] + self.shown(9), a, b, c])
            self.check_code(code, "", shown=tuple("0" + shown + "9"))

    def test_703_only_paragraph_0(self):
        self.check_code(code_of_paragraphs([self.shown(0), self.shown(1)]), "", shown=("0",))
        self.check_code(code_of_paragraphs([[], self.shown(1)]), "", shown=(), left=100)

    def test_703_calls_within_calls(self):
        code = code_of_paragraphs([[("call", 1, 2), ("call", 2, 2)], [("call", 2, 2)] + self.shown(1), self.shown(2)])
        self.check_code(code, "", shown=("2", "1", "2", "2"))

    def test_703_what_lies_on_the_stack_stays(self):
        code = code_of_paragraphs([[("push", 7), ("call", 1, 1), ("show-number", 0), ("show-line",)], [("push", 5), ("drop",)]])
        self.check_code(code, "", shown=("7",))

    def test_703_a_paragraph_that_calls_itself(self):
        # The field counts how many times; each call comes back to its own place.
        body = [("at", 0), ("load", DIGIT), ("double",), ("show-number", 0), ("show-line",), ("zero", 0), ("at", 0), ("load", DIGIT), ("push", 1), ("subtract",),
                ("at", 0), ("keep", DIGIT), ("call", 1, 1), ("push", 9), ("show-number", 0), ("show-line",)]
        body[5] = ("zero", 2 + len(body))
        code = code_of_paragraphs([[("call", 1, 1)], body], [DIGIT])
        self.check_code(code, "3", shown=("3", "2", "1", "0", "9", "9", "9"), memory="0")

    def test_703_paragraph_0_calls_itself(self):
        rows = [("step", 1), ("at", 0), ("load", DIGIT), ("zero", 10), ("push", 0), ("at", 0), ("keep", DIGIT), ("call", 0, 0)] + self.shown(5)
        rows[3] = ("zero", len(rows))
        self.check_code(code_of(rows, [DIGIT]), "1", shown=("5",), left=98)

    def test_703_leave_of_another_paragraph(self):
        # It does nothing if the last frame has another paragraph, and ends the range if it has this one.
        middle = [("leave", 2)] + self.shown(1)
        for first, last, shown in [(1, 1, ("1",)), (1, 2, ()), (2, 2, ("2",))]:
            self.check_code(code_of_paragraphs([[("call", first, last)], middle, self.shown(2)]), "", shown=shown)
        self.check_code(code_of_paragraphs([[("leave", 0)] + self.shown(1)]), "", shown=())
        self.check_code(code_of_paragraphs([[("leave", 1)] + self.shown(1), []]), "", shown=("1",))
        # A frame that is not the last one does not count.
        self.check_code(code_of_paragraphs([[("call", 1, 1)] + self.shown(3), [("leave", 0)] + self.shown(1)]), "", shown=("1", "3"))

    def test_703_the_end(self):
        # The end is reached from the middle, too: the frame of paragraph 0 leads behind the last instruction.
        self.check_code(code_of_paragraphs([[("step", 1)], self.shown(1)]), "", left=99, shown=())
        self.check_code(code_of([]), "", left=0, steps=0)

    def test_703_the_storage_of_the_outcome(self):
        code = code_of([("push", 7), ("at", 0), ("keep", DIGIT)], [DIGIT, DIGIT], [(("text", 3), "abc")])
        self.assertEqual(run_code(code, "12", {}, 3), ("end", 3, "72", (), ()))
        self.assertEqual(run_code(Code((), 0, "", (), (0,), (("leave", 0),)), "", {}, 0), ("end", 0, "", (), ()))


if __name__ == "__main__":
    unittest.main()
