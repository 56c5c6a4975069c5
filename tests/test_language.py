"""What a test can see of the rules for the code: sizes, characters, imports, builtins and kinds of values."""

import ast
import builtins
import pathlib
import unittest

PACKAGE = pathlib.Path(__file__).resolve().parent.parent / "cardwright"
FILES = sorted(PACKAGE.rglob("*.py"))

BUILTINS = """len range enumerate zip min max sum abs sorted reversed int str bool bytes list tuple dict set frozenset
isinstance ord repr any all divmod pow property ValueError KeyError IndexError TypeError LookupError
ZeroDivisionError""".split()
UNUSED_NAMES = """register mro elements open input law version_info with_traceback add_note compile copyright dir eval
exec exit format gc globals hash help id license locals next map filter os quit super type vars""".split()


def parsed():
    return [(path, ast.parse(path.read_text(encoding="utf-8"))) for path in FILES]


class TestLanguage(unittest.TestCase):
    def test_files(self):
        self.assertTrue(FILES)
        for path in PACKAGE.rglob("*"):
            if "__pycache__" not in path.parts:
                self.assertTrue(path.suffix == ".py" and path.stem.replace("_", "").isalnum(), path)

    def test_characters_and_sizes(self):
        for path in FILES:
            text = path.read_text(encoding="utf-8")
            self.assertTrue(all(character == "\n" or " " <= character <= "~" for character in text), path)
            lines = text.split("\n")
            self.assertLessEqual(len(lines), 400, path)
            self.assertLessEqual(max(len(line) for line in lines), 120, path)
        for path, tree in parsed():
            for node in ast.walk(tree):
                if isinstance(node, ast.FunctionDef):
                    self.assertLessEqual(node.end_lineno - node.lineno + 1, 40, (path, node.name))

    def test_imports(self):
        defined = {}
        for path, tree in parsed():
            names = [node.name for node in tree.body if isinstance(node, (ast.FunctionDef, ast.ClassDef))]
            targets = [node.targets[0].id for node in tree.body if isinstance(node, ast.Assign)]
            defined["cardwright." + path.stem] = names + targets
            self.assertEqual(len(names + targets), len(set(names + targets)), path)
        for path, tree in parsed():
            for node in ast.walk(tree):
                self.assertNotIsInstance(node, ast.Import, path)
                if isinstance(node, ast.ImportFrom):
                    self.assertIn(node, tree.body, path)
                    for alias in node.names:
                        self.assertIsNone(alias.asname)
                        self.assertIn(alias.name, defined[node.module], path)

    def test_no_unused_imports(self):
        for path, tree in parsed():
            read = {node.id for node in ast.walk(tree) if isinstance(node, ast.Name)}
            for node in tree.body:
                if isinstance(node, ast.ImportFrom):
                    for alias in node.names:
                        self.assertIn(alias.name, read, path)

    def test_names(self):
        for path, tree in parsed():
            for node in ast.walk(tree):
                if isinstance(node, ast.Name):
                    if hasattr(builtins, node.id):
                        self.assertIn(node.id, BUILTINS, path)
                        self.assertIsInstance(node.ctx, ast.Load, path)
                if isinstance(node, ast.arg):
                    self.assertFalse(hasattr(builtins, node.arg), (path, node.arg))
                for name in [getattr(node, key, None) for key in ("id", "arg", "attr", "name")]:
                    self.assertNotIn(name, UNUSED_NAMES, path)

    def test_values_and_statements(self):
        barred = (ast.Div, ast.Global, ast.AsyncFunctionDef, ast.AsyncFor, ast.AsyncWith, ast.Await)
        for path, tree in parsed():
            for node in ast.walk(tree):
                self.assertNotIsInstance(node, barred, path)
                if isinstance(node, ast.Constant):
                    self.assertNotIsInstance(node.value, (float, complex), path)
                    self.assertNotIn(chr(37), node.value if isinstance(node.value, str) else "", path)
                if isinstance(node, ast.BinOp) and isinstance(node.op, ast.Pow):
                    self.assertIsInstance(node.right, ast.Constant, path)
                for decorator in getattr(node, "decorator_list", []):
                    self.assertEqual(decorator.id, "property", path)


if __name__ == "__main__":
    unittest.main()
