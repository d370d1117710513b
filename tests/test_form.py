"""The interface stands where the document lists it, and the package keeps the plain rules of form."""

import ast
import unittest
from pathlib import Path

from meetrows.books import Book
from meetrows.growing import grown
from meetrows.notes import read, text_of

PACKAGE = Path(__file__).resolve().parent.parent / "meetrows"

# What the language rules let a file import from, beside the package itself.
LIBRARY = ("__future__", "collections", "heapq", "itertools", "math")

INTERFACE = {
    "errors.py": {
        "MeetError": None,
        "BadName": None,
        "BadRow": None,
        "NoRow": None,
        "TooMany": None,
        "NoMeet": None,
        "Unread": None,
    },
    "sets.py": {
        "is_name": ["thing"],
        "rising": ["names"],
        "within": ["one", "other"],
        "meets": ["one", "other"],
        "ranked": ["sets"],
        "least_of": ["sets"],
    },
    "growing.py": {
        "grown": ["sets", "row"],
    },
    "books.py": {
        "Book": None,
    },
    "notes.py": {
        "text_of": ["book"],
        "read": ["text"],
    },
}

METHODS = {
    "__init__": ["self"],
    "put": ["self", "row"],
    "take": ["self", "number"],
    "rows": ["self"],
    "names": ["self"],
    "least": ["self"],
    "fewest": ["self"],
    "meets": ["self", "names"],
    "pared": ["self", "names"],
    "own": ["self", "names"],
    "least_rows": ["self"],
    "needed": ["self"],
    "idle": ["self"],
    "struck": ["self", "name"],
    "without": ["self", "name"],
    "joined": ["self", "other"],
    "crossed": ["self", "other"],
}


def package_files():
    return [path for path in sorted(PACKAGE.rglob("*")) if "__pycache__" not in path.parts]


def parsed(path):
    return ast.parse(path.read_text(encoding="utf-8"))


def defined_in(body):
    """The names that a body of a file or class defines: the parameters of a function, None for a class."""
    told = {}
    for node in body:
        if isinstance(node, ast.FunctionDef):
            told[node.name] = [one.arg for one in node.args.args]
        elif isinstance(node, ast.ClassDef):
            told[node.name] = None
    return told


class Interface(unittest.TestCase):
    def test_each_name_is_defined_in_its_file_with_its_arguments(self):
        for file, names in INTERFACE.items():
            there = defined_in(parsed(PACKAGE / file).body)
            for name, arguments in names.items():
                with self.subTest(file, name=name):
                    self.assertIn(name, there)
                    self.assertEqual(there[name], arguments)

    def test_each_method_is_defined_in_its_class_with_its_arguments(self):
        book = next(node for node in parsed(PACKAGE / "books.py").body if isinstance(node, ast.ClassDef))
        there = defined_in(book.body)
        for name, arguments in METHODS.items():
            with self.subTest(name):
                self.assertEqual(there.get(name), arguments)

    def test_arguments_may_be_given_by_name(self):
        book = Book()
        self.assertEqual(book.put(row=["a", "b"]), 0)
        self.assertEqual(book.meets(names=["a"]), True)
        self.assertEqual(book.pared(names=["a", "b"]), ["a"])
        self.assertEqual(book.own(names=["a"]), [("a", 0)])
        self.assertEqual(book.struck(name="a").rows(), [(0, ["b"])])
        self.assertEqual(book.without(name="a").rows(), [])
        self.assertEqual(book.joined(other=book).rows(), [(0, ["a", "b"]), (1, ["a", "b"])])
        self.assertEqual(book.crossed(other=book).rows(), [(0, ["a", "b"])])
        self.assertIsNone(book.take(number=0))
        self.assertEqual(text_of(book=read(text="-")), "-")
        self.assertEqual(grown(sets=[[]], row=["a"]), [["a"]])


class Form(unittest.TestCase):
    def test_nothing_but_files_of_python(self):
        for path in package_files():
            self.assertTrue(path.is_dir() or path.suffix == ".py", path)
        self.assertTrue((PACKAGE / "__init__.py").is_file())

    def test_characters_and_sizes(self):
        for path in package_files():
            if path.is_file():
                text = path.read_text(encoding="utf-8")
                lines = text.split("\n")
                self.assertTrue(all(sign == "\n" or " " <= sign <= "~" for sign in text), path)
                self.assertLess(len(lines), 400, path)
                self.assertLessEqual(max(len(line) for line in lines), 120, path)

    def test_no_outside_package_is_imported(self):
        for path in package_files():
            for node in ast.walk(parsed(path)) if path.is_file() else []:
                self.assertNotIsInstance(node, ast.Import, path)
                if isinstance(node, ast.ImportFrom):
                    self.assertEqual(node.level, 0, path)
                    self.assertIn(node.module.split(".")[0], ("meetrows", *LIBRARY), path)

    def test_functions_are_short(self):
        for path in package_files():
            for node in ast.walk(parsed(path)) if path.is_file() else []:
                if isinstance(node, ast.FunctionDef):
                    self.assertLessEqual(node.end_lineno - node.lineno + 1, 40, (path, node.name))


if __name__ == "__main__":
    unittest.main()
