"""Point 8: the names and arguments of the interface, each defined in the file under which it is listed."""

import ast
import importlib
import inspect
import unittest
from pathlib import Path

FOLDER = Path(__file__).resolve().parent.parent / "thenbeside"

CLASSES = {
    "errors": {"PlanError": (), "BadValue": ("name",), "TooLarge": ("what",), "NotPossible": ("why",),
               "TextError": ("column", "words")},
}

FUNCTIONS = {
    "plans": {"is_plan": ("value", "size"), "normal": ("plan",), "relation": ("plan", "first", "second"),
              "joint": ("plan", "first", "second"), "restricted": ("plan", "chosen"), "turned": ("plan",),
              "renamed": ("plan", "order"), "put_together": ("word", "plans")},
    "rows": {"count_rows": ("plan",), "is_row_of": ("plan", "row")},
    "tables": {"is_table": ("value", "size"), "table_of": ("plan",), "part": ("table", "chosen"),
               "turned": ("table",), "is_bundle": ("table", "chosen")},
    "shapes": {"flaw": ("table",), "shows_flaw": ("table", "value"), "plan_of": ("table",)},
    "rules": {"is_problem": ("value",), "allowed": ("problem", "first", "second"), "keeps": ("problem", "plan"),
              "broken": ("problem", "plan"), "rule_turned": ("problem", "index"), "gathered": ("problem",),
              "part": ("problem", "chosen"), "turned": ("problem",), "renamed": ("problem", "order")},
    "sticking": {"is_tied": ("problem", "first", "second"), "hinders": ("problem", "first", "second"),
                 "reached": ("problem", "chosen", "task"), "is_stuck": ("problem", "chosen"),
                 "split_of": ("problem", "chosen"), "accepts_split": ("problem", "chosen", "value")},
    "grounds": {"grounds_for": ("problem", "chosen"), "accepts_grounds": ("problem", "chosen", "value")},
    "solving": {"solve": ("problem",), "accepts": ("problem", "answer"), "splits": ("problem", "chosen"),
                "with_split": ("problem", "split"), "least_stuck": ("problem",)},
    "verdicts": {"verdict": ("problem", "first", "relation", "second"),
                 "evidence_for": ("problem", "first", "relation", "second"),
                 "accepts_verdict": ("problem", "first", "relation", "second", "value"),
                 "open_relations": ("problem", "first", "second"), "implied_rules": ("problem",)},
    "listing": {"count_plans": ("problem",), "count_among": ("problem", "chosen"), "nth_plan": ("problem", "index"),
                "index_of_plan": ("problem", "value"), "plans_from": ("problem", "index", "many")},
    "dropping": {"is_possible": ("problem", "collection"), "can_be_dropped": ("problem", "collection", "index"),
                 "grounds_for": ("problem", "collection", "index"),
                 "accepts_grounds": ("problem", "collection", "index", "value"),
                 "plan_without": ("problem", "collection", "index"), "told_base": ("problem",),
                 "smallest_base": ("problem",)},
    "conflicts": {"told_conflict": ("problem",), "smallest_conflict": ("problem",),
                  "conflict_grounds": ("problem", "collection"),
                  "accepts_conflict": ("problem", "collection", "value"), "smallest_removal": ("problem",),
                  "removal_grounds": ("problem", "collection"),
                  "accepts_removal": ("problem", "collection", "value")},
    "times": {"starts": ("plan", "durations"), "length": ("plan", "durations"), "slacks": ("plan", "durations"),
              "told_chain": ("plan", "durations"), "length_grounds": ("plan", "durations"),
              "accepts_length": ("plan", "durations", "number", "value")},
    "widths": {"width": ("plan",), "widest_set": ("plan",), "count_abreast": ("plan",), "width_grounds": ("plan",),
               "accepts_width": ("plan", "value")},
    "scanning": {"scan": ("text",)},
    "reading": {"next_tokens": ("text", "kind"), "read_plan": ("text",), "read_problem": ("text",)},
    "writing": {"plan_text": ("plan",), "problem_text": ("problem",)},
    "journals": {"replayed": ("size", "journal"), "are_right": ("size", "records")},
}

METHODS = {"act": ("command",), "undo": (), "problem": (), "journal": (), "answer": (), "accepts": ("value",),
           "records": (), "fate": ("plan",), "twin": ()}


def defined(module, kind):
    """The names that a file defines itself by statements of this kind, at its uppermost level."""
    rows = ast.parse((FOLDER / f"{module}.py").read_text()).body
    return {row.name for row in rows if isinstance(row, kind)}


class InterfaceTest(unittest.TestCase):
    def test_functions(self):
        for module, functions in FUNCTIONS.items():
            found = importlib.import_module(f"thenbeside.{module}")
            self.assertLessEqual(set(functions), defined(module, ast.FunctionDef))
            for name, arguments in functions.items():
                parameters = inspect.signature(getattr(found, name)).parameters
                self.assertEqual(tuple(parameters), arguments)
                for parameter in parameters.values():
                    self.assertIs(parameter.kind, inspect.Parameter.POSITIONAL_OR_KEYWORD)
                    self.assertIs(parameter.default, inspect.Parameter.empty)

    def check_parameters(self, function, arguments):
        """The function has these parameters, which have no default values, behind the object itself."""
        parameters = inspect.signature(function).parameters
        self.assertEqual(tuple(parameters), ("self", *arguments))
        for parameter in parameters.values():
            self.assertIs(parameter.kind, inspect.Parameter.POSITIONAL_OR_KEYWORD)
            self.assertIs(parameter.default, inspect.Parameter.empty)

    def test_book(self):
        self.assertIn("Book", defined("book", ast.ClassDef))
        book = importlib.import_module("thenbeside.book").Book
        self.check_parameters(book.__init__, ("size",))
        for name, arguments in METHODS.items():
            # Each method stands in the body of the class itself.
            self.check_parameters(vars(book)[name], arguments)

    def test_each_module_is_listed(self):
        files = {path.stem for path in FOLDER.glob("*.py")} - {"__init__", "basics", "grammar"}
        self.assertEqual(files, {*CLASSES, *FUNCTIONS, "book"})

    def test_classes(self):
        for module, classes in CLASSES.items():
            found = importlib.import_module(f"thenbeside.{module}")
            self.assertLessEqual(set(classes), defined(module, ast.ClassDef))
            for name, attributes in classes.items():
                created = getattr(found, name)(*range(len(attributes)))
                self.assertEqual([getattr(created, name) for name in attributes], list(range(len(attributes))))


if __name__ == "__main__":
    unittest.main()
