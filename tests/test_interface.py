"""Point 8: the names and arguments of the interface, each defined in the file under which it is listed."""

import ast
import importlib
import inspect
import unittest
from pathlib import Path

FOLDER = Path(__file__).resolve().parent.parent / "thenbeside"

CLASSES = {
    "errors": {"PlanError": (), "BadValue": ("name",), "TooLarge": ("what",), "NotPossible": ("why",),
               "TextError": ("column", "words")},
}

FUNCTIONS = {
    "plans": {"is_plan": ("value", "size"), "normal": ("plan",), "relation": ("plan", "first", "second"),
              "joint": ("plan", "first", "second"), "restricted": ("plan", "chosen"), "turned": ("plan",),
              "renamed": ("plan", "order"), "put_together": ("word", "plans")},
    "rows": {"count_rows": ("plan",), "is_row_of": ("plan", "row")},
    "tables": {"is_table": ("value", "size"), "table_of": ("plan",), "part": ("table", "chosen"),
               "turned": ("table",), "is_bundle": ("table", "chosen")},
}


def defined(module, kind):
    """The names that a file defines itself by statements of this kind, at its uppermost level."""
    rows = ast.parse((FOLDER / f"{module}.py").read_text()).body
    return {row.name for row in rows if isinstance(row, kind)}


class InterfaceTest(unittest.TestCase):
    def test_functions(self):
        for module, functions in FUNCTIONS.items():
            found = importlib.import_module(f"thenbeside.{module}")
            self.assertLessEqual(set(functions), defined(module, ast.FunctionDef))
            for name, arguments in functions.items():
                parameters = inspect.signature(getattr(found, name)).parameters
                self.assertEqual(tuple(parameters), arguments)
                for parameter in parameters.values():
                    self.assertIs(parameter.kind, inspect.Parameter.POSITIONAL_OR_KEYWORD)
                    self.assertIs(parameter.default, inspect.Parameter.empty)

    def test_classes(self):
        for module, classes in CLASSES.items():
            found = importlib.import_module(f"thenbeside.{module}")
            self.assertLessEqual(set(classes), defined(module, ast.ClassDef))
            for name, attributes in classes.items():
                created = getattr(found, name)(*range(len(attributes)))
                self.assertEqual([getattr(created, name) for name in attributes], list(range(len(attributes))))


if __name__ == "__main__":
    unittest.main()
