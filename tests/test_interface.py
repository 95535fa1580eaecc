"""The section "The interface": names, arguments and the files that define them."""

import ast
import unittest
from pathlib import Path

PACKAGE = Path(__file__).resolve().parent.parent / "ringword"

FUNCTIONS = {
    "words.py": {
        "is_word": ["thing"],
        "need_word": ["thing"],
        "turned": ["word", "steps"],
        "turnings": ["word"],
    },
    "pieces.py": {
        "is_early": ["word"],
        "pieces": ["word"],
        "cuts": ["word"],
        "is_cutting": ["word", "rows"],
    },
    "turns.py": {
        "least_turn": ["word"],
        "least_form": ["word"],
        "steps_between": ["one", "other"],
    },
    "beats.py": {
        "borders": ["word"],
        "beat": ["word"],
        "root": ["word"],
    },
    "rows.py": {
        "early_words": ["signs", "longest"],
        "next_early": ["word", "signs", "longest"],
    },
    "counts.py": {
        "early_count": ["many", "long"],
        "ring_count": ["many", "long"],
    },
}

CLASSES = {
    "errors.py": ["WordError", "NoWord", "NoSigns", "NoCount", "TooMany", "NoRing", "Twice"],
    "rings.py": ["Rings"],
}

METHODS = {
    "__init__": ["self"],
    "add": ["self", "word"],
    "take": ["self", "word"],
    "ring_of": ["self", "word"],
    "others": ["self", "word"],
    "members": ["self", "number"],
    "forms": ["self"],
    "many": ["self"],
}


def rows_of(name):
    """The statements of a file of the package."""
    return ast.parse((PACKAGE / name).read_text(encoding="utf-8")).body


def functions_in(rows):
    """The names of the functions among the statements, with their arguments."""
    return {
        row.name: [part.arg for part in row.args.args]
        for row in rows
        if isinstance(row, ast.FunctionDef)
    }


class Interface(unittest.TestCase):
    def test_each_function_is_defined_in_its_file(self):
        for name, wanted in FUNCTIONS.items():
            found = functions_in(rows_of(name))
            for function, arguments in wanted.items():
                with self.subTest(file=name, function=function):
                    self.assertEqual(found.get(function), arguments)

    def test_each_class_is_defined_in_its_file(self):
        for name, wanted in CLASSES.items():
            found = [row.name for row in rows_of(name) if isinstance(row, ast.ClassDef)]
            for told in wanted:
                with self.subTest(file=name, told=told):
                    self.assertIn(told, found)

    def test_each_method_is_defined_in_the_class_itself(self):
        for row in rows_of("rings.py"):
            if isinstance(row, ast.ClassDef) and row.name == "Rings":
                found = functions_in(row.body)
        for method, arguments in METHODS.items():
            with self.subTest(method=method):
                self.assertEqual(found.get(method), arguments)

    def test_init_binds_nothing(self):
        for row in rows_of("__init__.py"):
            self.assertIsInstance(row, ast.Expr)
            self.assertIsInstance(row.value, ast.Constant)


if __name__ == "__main__":
    unittest.main()
