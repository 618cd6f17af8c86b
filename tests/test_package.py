"""The shape of the package: its files, its interface's names, its imports and its sizes."""

import ast
import unittest
from pathlib import Path

PACKAGE = Path(__file__).resolve().parent.parent / "nearfields"
LIBRARY = ("__future__", "collections", "heapq", "itertools", "math")

INTERFACE = {
    "errors.py": {
        "FieldError": ("class", ["ValueError"]),
        "BadCount": ("class", ["FieldError"]),
        "BadPoint": ("class", ["FieldError"]),
        "Twice": ("class", ["FieldError"]),
        "InRow": ("class", ["FieldError"]),
        "NoPoint": ("class", ["FieldError"]),
        "NoSide": ("class", ["FieldError"]),
        "Bent": ("class", ["FieldError"]),
    },
    "points.py": {"checked": ("def", ["points"])},
    "plane.py": {
        "turn": ("def", ["a", "b", "c"]),
        "far": ("def", ["a", "b"]),
        "ring": ("def", ["a", "b", "c", "d"]),
        "middle": ("def", ["a", "b", "c"]),
    },
    "filling.py": {
        "hull": ("def", ["points"]),
        "spread": ("def", ["points"]),
        "fills": ("def", ["points", "net"]),
    },
    "swaps.py": {
        "swapped": ("def", ["points", "net", "side"]),
        "near": ("def", ["points"]),
        "mended": ("def", ["points", "net"]),
        "way": ("def", ["points", "one", "other"]),
    },
    "fields.py": {
        "around": ("def", ["points", "net", "number"]),
        "field": ("def", ["points", "net", "number"]),
        "walked": ("def", ["points", "net", "start", "spot"]),
    },
}


def files():
    return sorted(PACKAGE.rglob("*.py"))


def shape(node):
    if isinstance(node, ast.ClassDef):
        return ("class", [base.id for base in node.bases])
    return ("def", [argument.arg for argument in node.args.args])


class Package(unittest.TestCase):
    def test_the_folder_holds_nothing_but_python_files(self):
        self.assertTrue((PACKAGE / "__init__.py").is_file())
        for path in PACKAGE.rglob("*"):
            if "__pycache__" not in path.parts:
                self.assertTrue(path.is_dir() or path.suffix == ".py", path)

    def test_the_interface_is_defined_where_it_is_listed(self):
        for name, told in INTERFACE.items():
            tree = ast.parse((PACKAGE / name).read_text("ascii"))
            found = {
                node.name: shape(node)
                for node in tree.body
                if isinstance(node, (ast.ClassDef, ast.FunctionDef))
            }
            for word, expected in told.items():
                with self.subTest(file=name, word=word):
                    self.assertEqual(found.get(word), expected)

    def test_imports_name_the_package_or_what_the_language_lets(self):
        for path in files():
            for node in ast.walk(ast.parse(path.read_text("ascii"))):
                self.assertNotIsInstance(node, ast.Import, path)
                if isinstance(node, ast.ImportFrom):
                    self.assertEqual(node.level, 0, path)
                    if node.module not in LIBRARY:
                        self.assertTrue(node.module.startswith("nearfields."), path)

    def test_sizes_and_characters(self):
        for path in files():
            text = path.read_text("ascii")
            rows = text.splitlines()
            self.assertLessEqual(len(rows), 399, path)
            for row in rows:
                self.assertLessEqual(len(row), 120, path)
            for sign in text:
                self.assertTrue(sign == "\n" or " " <= sign <= "~", path)
            for node in ast.walk(ast.parse(text)):
                if isinstance(node, ast.FunctionDef):
                    self.assertLessEqual(node.end_lineno - node.lineno + 1, 40, node.name)


if __name__ == "__main__":
    unittest.main()
