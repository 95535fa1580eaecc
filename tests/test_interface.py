"""The section "The interface": names, arguments and the files that define them."""

import ast
import unittest
from pathlib import Path

PACKAGE = Path(__file__).resolve().parent.parent / "ringword"

FUNCTIONS = {
    "words.py": {
        "is_word": ["thing"],
        "need_word": ["thing"],
        "turned": ["word", "steps"],
        "turnings": ["word"],
    },
    "pieces.py": {
        "is_early": ["word"],
        "pieces": ["word"],
        "cuts": ["word"],
        "is_cutting": ["word", "rows"],
    },
    "turns.py": {
        "least_turn": ["word"],
        "least_form": ["word"],
        "steps_between": ["one", "other"],
    },
}

CLASSES = {
    "errors.py": ["WordError", "NoWord", "NoSigns", "NoCount", "TooMany", "NoRing", "Twice"],
}


def rows_of(name):
    """The statements of a file of the package."""
    return ast.parse((PACKAGE / name).read_text(encoding="utf-8")).body


class Interface(unittest.TestCase):
    def test_each_function_is_defined_in_its_file(self):
        for name, wanted in FUNCTIONS.items():
            found = {
                row.name: [part.arg for part in row.args.args]
                for row in rows_of(name)
                if isinstance(row, ast.FunctionDef)
            }
            for function, arguments in wanted.items():
                with self.subTest(file=name, function=function):
                    self.assertEqual(found.get(function), arguments)

    def test_each_class_is_defined_in_its_file(self):
        for name, wanted in CLASSES.items():
            found = [row.name for row in rows_of(name) if isinstance(row, ast.ClassDef)]
            for told in wanted:
                with self.subTest(file=name, told=told):
                    self.assertIn(told, found)

    def test_init_binds_nothing(self):
        for row in rows_of("__init__.py"):
            self.assertIsInstance(row, ast.Expr)
            self.assertIsInstance(row.value, ast.Constant)


if __name__ == "__main__":
    unittest.main()
