"""The interface as the document lists it, and the plain ones of the language's rules."""

import ast
import importlib
import inspect
import pathlib
import unittest

ROOT = pathlib.Path(__file__).resolve().parent.parent
PACKAGE = ROOT / "cleanedtables"

INTERFACE = {
    "worths": {"is_worth": ["thing"], "rank": ["worth"]},
    "forms": {"is_form": ["thing"], "read_as": ["form", "text"], "written": ["form", "number"]},
    "shapes": {"is_shape": ["thing"]},
    "lines": {"lines_of": ["shape", "text"], "cell_worth": ["text"]},
    "cells": {
        "put_cell": ["shape", "text", "number", "column", "worth"],
        "add_row": ["shape", "text", "worths"],
    },
    "orders": {"orders_of": ["program", "table"], "order_at": ["program", "table", "which"]},
    "programs": {"look_program": ["thing"], "columns_of": ["program", "table"]},
    "touches": {"touched": ["step"], "clashes": ["program"]},
    "steps": {"done": ["step", "worths"]},
    "running": {"run": ["program", "texts", "*orders"]},
    "asking": {"answer": ["program", "texts", "thing"], "looked": ["program", "texts", "things"]},
    "traces": {
        "trace": ["program", "texts", "thing"],
        "shows_trace": ["program", "texts", "thing", "made"],
    },
    "lots": {
        "lot_of": ["program", "texts", "table", "row"],
        "sources_of": ["program", "lot"],
        "run_only": ["program", "texts", "only"],
    },
    "ledgers": {"ledger": ["program", "texts"], "ends_of": ["program"]},
    "mends": {
        "mend": ["program", "texts", "table", "offers"],
        "shows_mend": ["program", "texts", "table", "offers", "thing"],
        "put_offers": ["program", "texts", "offers", "choice"],
    },
    "showing": {"show_program": ["program"]},
    "reading": {"read_program": ["text"]},
    "spans": {
        "spread": ["program", "spans"],
        "texts_at": ["program", "spans", "which"],
        "alike": ["one", "other", "tables", "spans"],
    },
    "byrows": {
        "goes_by_rows": ["program"],
        "onward": ["program", "state", "worths"],
        "alike_by_rows": ["one", "other", "worths"],
        "shows_alike": ["one", "other", "worths", "thing"],
    },
}
CLASSES = {
    "benches": {
        "Bench": {
            "__init__": ["self", "program", "texts"],
            "put": ["self", "source", "number", "column", "worth"],
            "add": ["self", "source", "worths"],
            "drop": ["self", "source", "number"],
            "text_of": ["self", "source"],
            "answer": ["self", "thing"],
            "rows_of": ["self", "name"],
            "made": ["self"],
            "undo": ["self"],
            "redo": ["self"],
            "together": ["self", "deeds", "*look"],
            "log": ["self"],
            "is_open": ["self"],
            "__eq__": ["self", "other"],
            "__len__": ["self"],
            "__str__": ["self"],
        },
    },
    "desk": {"Desk": {"__init__": ["self", "text"], "say": ["self", "line"]}},
}


def trees():
    """Each file of the package with its text and its tree."""
    for path in sorted(PACKAGE.rglob("*.py")):
        text = path.read_text(encoding="utf-8")
        yield path, text, ast.parse(text)


def is_plain(node, functions):
    """Whether what is assigned to a name is a plain value, or of these and functions."""
    if isinstance(node, ast.Dict):
        return all(is_plain(part, functions) for part in [*node.keys, *node.values])
    if isinstance(node, (ast.Tuple, ast.List)):
        return all(is_plain(part, functions) and not isinstance(part, (ast.Dict, ast.List)) for part in node.elts)
    return isinstance(node, ast.Constant) or isinstance(node, ast.Name) and node.id in functions


class Interface(unittest.TestCase):

    def test_each_function_stands_in_its_file(self):
        for module, functions in INTERFACE.items():
            tree = ast.parse((PACKAGE / f"{module}.py").read_text(encoding="utf-8"))
            defined = {node.name for node in tree.body if isinstance(node, ast.FunctionDef)}
            self.assertLessEqual(set(functions), defined)

    def test_each_method_stands_in_its_class(self):
        for module, classes in CLASSES.items():
            tree = ast.parse((PACKAGE / f"{module}.py").read_text(encoding="utf-8"))
            bodies = {node.name: node.body for node in tree.body if isinstance(node, ast.ClassDef)}
            for name, methods in classes.items():
                defined = {node.name for node in bodies[name] if isinstance(node, ast.FunctionDef)}
                self.assertLessEqual(set(methods), defined)

    def test_each_function_takes_what_is_told(self):
        for module, functions in INTERFACE.items():
            self.takes(importlib.import_module(f"cleanedtables.{module}"), functions)

    def test_each_method_takes_what_is_told(self):
        for module, classes in CLASSES.items():
            for name, methods in classes.items():
                self.takes(getattr(importlib.import_module(f"cleanedtables.{module}"), name), methods)

    def takes(self, holder, functions):
        for name, arguments in functions.items():
            taken = inspect.signature(getattr(holder, name)).parameters.values()
            self.assertEqual([one.name for one in taken], [told.lstrip("*") for told in arguments])
            for one, told in zip(taken, arguments):
                if told.startswith("*"):
                    self.assertIs(one.kind, inspect.Parameter.KEYWORD_ONLY)
                    self.assertIsNone(one.default)
                else:
                    self.assertIs(one.kind, inspect.Parameter.POSITIONAL_OR_KEYWORD)
                    self.assertIs(one.default, inspect.Parameter.empty)


class Language(unittest.TestCase):

    def test_the_folder_holds_files_of_python_alone(self):
        held = [path for path in PACKAGE.iterdir() if path.name != "__pycache__"]
        self.assertIn(PACKAGE / "__init__.py", held)
        for path in held:
            self.assertRegex(path.name, r"\A[a-z_][a-z0-9_]*\.py\Z")

    def test_sizes_and_characters(self):
        for path, text, tree in trees():
            rows = text.split("\n")
            self.assertLessEqual(len(rows), 399, path)
            self.assertLessEqual(max(map(len, rows)), 120, path)
            self.assertRegex(text, r"\A[ -~\n]*\Z", path)
            for node in ast.walk(tree):
                if isinstance(node, ast.FunctionDef):
                    self.assertLessEqual(node.end_lineno - node.lineno + 1, 40, node.name)

    def test_imports_come_from_the_package_and_from_the_file_that_defines(self):
        for path, _, tree in trees():
            for node in ast.walk(tree):
                self.assertNotIsInstance(node, ast.Import, path)
                if isinstance(node, ast.ImportFrom):
                    self.assertTrue(node.module.startswith("cleanedtables."), path)
                    self.assertIn(node, tree.body)
                    source = ROOT / (node.module.replace(".", "/") + ".py")
                    bound = ast.parse(source.read_text(encoding="utf-8")).body
                    names = [one.name for one in bound if hasattr(one, "name")]
                    names += [one.targets[0].id for one in bound if isinstance(one, ast.Assign)]
                    self.assertLessEqual({alias.name for alias in node.names}, set(names))

    def test_modules_hold_functions_classes_and_plain_values_alone(self):
        for path, _, tree in trees():
            above = []
            for node in tree.body:
                if isinstance(node, ast.Assign):
                    self.assertEqual(len(node.targets), 1, path)
                    self.assertIsInstance(node.targets[0], ast.Name, path)
                    self.assertTrue(is_plain(node.value, above), path)
                    continue
                if isinstance(node, ast.FunctionDef):
                    above.append(node.name)
                if isinstance(node, ast.Expr):
                    self.assertIs(node, tree.body[0], path)
                    continue
                self.assertIsInstance(node, (ast.FunctionDef, ast.ClassDef, ast.ImportFrom), path)

    def test_what_the_language_leaves_out(self):
        barred = (ast.Global, ast.AsyncFunctionDef, ast.Await, ast.Div, ast.Pow, ast.GeneratorExp)
        for path, _, tree in trees():
            for node in ast.walk(tree):
                self.assertNotIsInstance(node, barred, path)
                if isinstance(node, ast.Constant):
                    self.assertNotIsInstance(node.value, float, path)
                    self.assertFalse(isinstance(node.value, str) and chr(37) in node.value, path)


if __name__ == "__main__":
    unittest.main()
