"""The interface: names, arguments and the files that define them; and plain rules that all files keep."""

import ast
import re
import unittest
from pathlib import Path

PACKAGE = Path(__file__).resolve().parent.parent / "trendhouse"

# For each file its functions and classes, with their arguments; a class's methods by a dot.
INTERFACE = {
    "errors.py": {"TrendError": None, "BadHouse": None, "BadRoom": None, "BadRun": None, "BadText": None},
    "houses.py": {"House": None, "House.__init__": ["self", "things", "ties"], "House.things": ["self"],
                  "House.ties": ["self"]},
    "rooms.py": {"broken": ["house", "room"], "rooms": ["house"]},
    "moves.py": {"nexts": ["house", "room"], "why_not": ["house", "room", "other"]},
    "coming.py": {"reach": ["house", "room"], "comes_by": ["house", "room", "goals"]},
    "runs.py": {"passed": ["house", "rows"], "kept": ["house", "rows"], "passing": ["house", "room", "other"]},
    "notes.py": {"written": ["house"], "read": ["text"]},
}


def defined(tree):
    """Each function, class and method that a file defines, with its arguments."""
    found = {}
    for node in tree.body:
        if isinstance(node, ast.FunctionDef):
            found[node.name] = [argument.arg for argument in node.args.args]
        if isinstance(node, ast.ClassDef):
            found[node.name] = None
            for inner in node.body:
                if isinstance(inner, ast.FunctionDef):
                    found[f"{node.name}.{inner.name}"] = [argument.arg for argument in inner.args.args]
    return found


class Package(unittest.TestCase):
    def sources(self):
        return [path for path in sorted(PACKAGE.iterdir()) if path.name != "__pycache__"]

    def test_the_interface_is_defined_where_it_is_listed(self):
        for name, wanted in INTERFACE.items():
            found = defined(ast.parse((PACKAGE / name).read_text()))
            for what, arguments in wanted.items():
                self.assertIn(what, found, name)
                self.assertEqual(found[what], arguments, what)

    def test_files(self):
        self.assertIn("__init__.py", [path.name for path in self.sources()])
        for path in self.sources():
            self.assertTrue(path.is_file() and re.fullmatch(r"[a-z_]+\.py", path.name), path.name)

    def test_lines_and_characters(self):
        for path in self.sources():
            text = path.read_bytes().decode("ascii")
            self.assertRegex(text, r"\A[ -~\n]*\Z")
            self.assertLessEqual(len(text.splitlines()), 399)
            self.assertLessEqual(max(map(len, text.splitlines())), 120)

    def test_functions_are_short(self):
        for path in self.sources():
            for node in ast.walk(ast.parse(path.read_text())):
                if isinstance(node, ast.FunctionDef):
                    self.assertLessEqual(node.end_lineno - node.lineno, 39, node.name)

    def test_imports_come_from_the_package(self):
        for path in self.sources():
            for node in ast.walk(ast.parse(path.read_text())):
                self.assertNotIsInstance(node, ast.Import)
                if isinstance(node, ast.ImportFrom):
                    self.assertTrue(node.module.startswith("trendhouse."), node.module)


if __name__ == "__main__":
    unittest.main()
