"""The interface stands where the document lists it, and the package keeps the plain rules of form."""

import ast
import unittest
from pathlib import Path

PACKAGE = Path(__file__).resolve().parent.parent / "meetrows"

# What the language rules let a file import from, beside the package itself.
LIBRARY = ("__future__", "collections", "heapq", "itertools", "math")

INTERFACE = {
    "errors.py": {
        "MeetError": None,
        "BadName": None,
        "BadRow": None,
        "NoRow": None,
        "TooMany": None,
        "NoMeet": None,
        "Unread": None,
    },
    "sets.py": {
        "is_name": ["thing"],
        "rising": ["names"],
        "within": ["one", "other"],
        "meets": ["one", "other"],
        "ranked": ["sets"],
        "least_of": ["sets"],
    },
}


def package_files():
    return [path for path in sorted(PACKAGE.rglob("*")) if "__pycache__" not in path.parts]


def parsed(path):
    return ast.parse(path.read_text(encoding="utf-8"))


def defined_in(path):
    """The names that a file defines at module level: the parameters of a function, None for a class."""
    told = {}
    for node in parsed(path).body:
        if isinstance(node, ast.FunctionDef):
            told[node.name] = [one.arg for one in node.args.args]
        elif isinstance(node, ast.ClassDef):
            told[node.name] = None
    return told


class Interface(unittest.TestCase):
    def test_each_name_is_defined_in_its_file_with_its_arguments(self):
        for file, names in INTERFACE.items():
            there = defined_in(PACKAGE / file)
            for name, arguments in names.items():
                with self.subTest(file, name=name):
                    self.assertIn(name, there)
                    self.assertEqual(there[name], arguments)


class Form(unittest.TestCase):
    def test_nothing_but_files_of_python(self):
        for path in package_files():
            self.assertTrue(path.is_dir() or path.suffix == ".py", path)
        self.assertTrue((PACKAGE / "__init__.py").is_file())

    def test_characters_and_sizes(self):
        for path in package_files():
            if path.is_file():
                text = path.read_text(encoding="utf-8")
                lines = text.split("\n")
                self.assertTrue(all(sign == "\n" or " " <= sign <= "~" for sign in text), path)
                self.assertLess(len(lines), 400, path)
                self.assertLessEqual(max(len(line) for line in lines), 120, path)

    def test_no_outside_package_is_imported(self):
        for path in package_files():
            for node in ast.walk(parsed(path)) if path.is_file() else []:
                self.assertNotIsInstance(node, ast.Import, path)
                if isinstance(node, ast.ImportFrom):
                    self.assertEqual(node.level, 0, path)
                    self.assertIn(node.module.split(".")[0], ("meetrows", *LIBRARY), path)

    def test_functions_are_short(self):
        for path in package_files():
            for node in ast.walk(parsed(path)) if path.is_file() else []:
                if isinstance(node, ast.FunctionDef):
                    self.assertLessEqual(node.end_lineno - node.lineno + 1, 40, (path, node.name))


if __name__ == "__main__":
    unittest.main()
