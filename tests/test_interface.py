"""What the interface lists stands in its file, under its name and with its arguments."""

import ast
import pathlib
import unittest

PACKAGE = pathlib.Path(__file__).resolve().parent.parent / "cardwright"
CLASSES_OF_ERRORS = "CardError BadDecimal BadPicture BadData BadPart BadProgram BadCode Halt BadJob".split()
VALUES = {
    "limits": """MOST_NAME MOST_DIGITS MOST_TEXT MOST_TIMES MOST_STORAGE MOST_LINE MOST_STEPS MOST_DEPTH MOST_SCALE MOST_NEST MOST_CALLS
        MOST_PROGRAM MOST_LEVEL""",
    "words": "RESERVED",
}
FUNCTIONS = {
    "words": ["is_integer(value, least, greatest)", "is_printable(value)", "is_name(value)", "are_figures(value)"],
    "decimals": ["normal(units, scale)", "power(exponent)", "add(a, b)", "subtract(a, b)", "multiply(a, b)", "negative(a)", "compare(a, b)",
                 "quotient(above, below, is_rounded)", "units_at(a, scale, is_rounded)", "show(a)", "aligned(a, scale)",
                 "divide(a, b, scale, is_rounded)", "fits(units, digits)", "parse(text)"],
    "pictures": ["parse_picture(text)", "picture_text(picture)", "size_of(picture)", "is_signed(picture)", "digits_in(picture)", "is_picture(value)"],
    "editing": ["suits(picture, units)", "written(picture, units)", "reading(picture, text)", "holds(picture, text)", "value_of(picture, text)",
                "trimmed(picture, units)"],
    "storage": ["record_holds(size, cells, text)"],
    "moves": ["can_move(source, target)", "moved(source, content, target)", "stored(target, value, is_rounded)", "cut_to(target, value)",
              "padded(text, size)", "figures_of(picture, text)"],
    "tokens": ["quoted(string)", "tokens(text)"],
    "trees": ["depth_of(tree)", "is_expression(value)", "is_condition(value)", "is_entry(value)"],
    "expressions": ["read_expression(cursor)", "read_condition(cursor)"],
    "datatext": ["read_entry(cursor)", "read_file(cursor)"],
    "sentences": ["read_statement(cursor, *, depth)"],
    "parsing": ["parse(text)"],
    "statements": ["is_statement(value)", "is_program(value)"],
    "writing": ["expression_text(tree)", "condition_text(tree)", "entry_row(entry)", "statement_rows(statement)", "text_of(program)"],
    "kinds": ["check_reference(scope, reference)", "check_expression(scope, tree)", "check_condition(scope, tree)"],
    "rules": ["check_statement(scope, statement)"],
    "performs": ["performed(statements)", "graph_of(paragraphs)", "ranks(graph)", "circle(graph)"],
    "checker": ["check(program)"],
    "meaning": ["run_plain(program, lines, steps)", "order_of(op, sign)", "compare_texts(one, other)",
                "sorted_rows(rows, offset, picture, is_descending)"],
    "code": ["check_forms(code)"],
    "examiner": ["examine(code)"],
    "machine": ["run_code(code, storage, lines, steps)"],
    "compiler": ["compile_program(program)"],
    "flow": ["reached(starts, rows)"],
    "shortener": ["shorten(code)"],
    "jobs": ["load(text)", "run_job(text, lines, steps, way)", "report(outcome)"],
}
METHODS = {
    ("layout", "Layout"): ["__init__(self, entries)", "size(self)", "names(self)", "records(self)", "item(self, name)", "kind(self, name)",
                           "dims(self, name)", "cells(self, name)", "shape(self, name)", "first_text(self, name)", "first_storage(self)"],
    ("storage", "Storage"): ["__init__(self, text)", "read(self, offset, size)", "write(self, offset, text)", "text(self)"],
    ("tokens", "Cursor"): ["__init__(self, text)", "row(self)", "row_behind(self)", "is_done(self)", "peek(self)", "accept(self, word)",
                           "expect(self, *words)", "take_name(self)", "take_decimal(self)", "take_string(self)",
                           "take_integer(self, *, least=0, greatest)"],
    ("names", "Scope"): ["__init__(self, program)", "check_item(self, name)", "check_file(self, name, kind)", "place_of(self, name)",
                         "is_within(self, name, outer)", "is_table(self, name)"],
    ("files", "Files"): ["__init__(self, files, lines)", "read(self, name, size, cells)", "write(self, name, text)", "show(self, text)",
                         "record_of(self, name)", "outputs(self)"],
    ("code", "Code"): ["__init__(self, files, size, constants, cells, starts, instructions)", "length(self)", "region(self, paragraph)",
                       "with_instructions(self, starts, instructions)"],
}


def body_of(module):
    return ast.parse((PACKAGE / (module + ".py")).read_text(encoding="utf-8")).body


def heads_in(body):
    return [f"{node.name}({ast.unparse(node.args)})" for node in body if isinstance(node, ast.FunctionDef)]


def classes_in(body):
    return {node.name: node.body for node in body if isinstance(node, ast.ClassDef)}


class TestInterface(unittest.TestCase):
    def test_functions(self):
        for module, heads in FUNCTIONS.items():
            found = heads_in(body_of(module))
            for head in heads:
                self.assertIn(head, found, module)

    def test_classes(self):
        for (module, name), heads in METHODS.items():
            found = heads_in(classes_in(body_of(module))[name])
            for head in heads:
                self.assertIn(head, found, (module, name))

    def test_errors(self):
        self.assertEqual(set(CLASSES_OF_ERRORS) - set(classes_in(body_of("errors"))), set())

    def test_values(self):
        for module, names in VALUES.items():
            found = [node.targets[0].id for node in body_of(module) if isinstance(node, ast.Assign)]
            for name in names.split():
                self.assertIn(name, found, module)


if __name__ == "__main__":
    unittest.main()
