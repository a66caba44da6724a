"""The introduction of the interface, and point 2: what the files of the package define and use."""

import ast
import doctest
import importlib
import inspect
import pathlib
import unittest

from rowsahead.runs import Run

PACKAGE = pathlib.Path(__file__).resolve().parent.parent / "rowsahead"
FUNCTIONS = {
    "problems": {"check_problem": ["value"], "check_setup": ["value"]},
    "training": {
        "correction": ["problem", "table", "sample"],
        "updates": ["problem", "samples", "table"],
        "train": ["problem", "count"],
    },
    "stays": {
        "users": ["problem", "setup", "row", "batch"],
        "uses": ["problem", "first", "row"],
        "stays": ["problem", "setup", "first"],
    },
    "events": {
        "events": ["problem", "setup", "first"],
        "causes": ["problem", "setup", "first", "event"],
        "plan": ["problem", "setup", "first"],
    },
    "logs": {
        "audit": ["problem", "setup", "first", "log"],
        "is_orderly": ["problem", "setup", "first", "log"],
    },
    "times": {
        "check_delays": ["value"],
        "timetable": ["problem", "setup", "first", "delays"],
        "judge_time": ["problem", "setup", "first", "delays", "event", "time", "paper"],
        "explain_time": ["problem", "setup", "first", "delays", "event", "time"],
    },
    "papers": {
        "judge_exchanges": ["problem", "setup", "first", "log", "other", "places"],
        "exchanges": ["problem", "setup", "first", "log", "other"],
        "judge_fault": ["problem", "setup", "first", "log", "paper"],
        "explain_fault": ["problem", "setup", "first", "log"],
    },
}
CLASSES = {
    "errors": ["AheadError", "BadProblem", "BadSetup", "BadDelays", "NoSuchEvent", "NotPossible",
               "CheckpointUnderWay", "TooLate"],
    "runs": ["Run"],
}
METHODS_OF_RUNS = {
    "__init__": ["self", "problem", "setup", "first"],
    "settled": ["self"],
    "finished": ["self"],
    "enabled": ["self"],
    "step": ["self", "event"],
    "rows": ["self"],
    "positions": ["self"],
    "save": ["self", "batch"],
    "checkpoint": ["self"],
    "restart": ["self", "setup"],
    "play": ["self"],
    "tried": ["self"],
    "foresee": ["self", "event"],
    "__len__": ["self"],
    "__iter__": ["self"],
    "__eq__": ["self", "other"],
}
# What the rules let a file import from outside of the package: no clock, no random numbers, no files.
LIBRARY = ("__future__", "collections", "heapq", "itertools", "math")
OUTSIDE = ("open", "print", "input", "exec", "eval", "compile", "hash", "id", "__import__")


def tree(path):
    return ast.parse(path.read_text(encoding="utf-8"))


def defined(module, kind):
    return [node.name for node in tree(PACKAGE / (module + ".py")).body if isinstance(node, kind)]


class Interface(unittest.TestCase):
    def test_functions_are_defined_in_their_files_with_their_arguments(self):
        for module, functions in FUNCTIONS.items():
            for name, arguments in functions.items():
                with self.subTest(module, name=name):
                    self.assertIn(name, defined(module, ast.FunctionDef))
                    function = getattr(importlib.import_module("rowsahead." + module), name)
                    self.assertEqual(list(inspect.signature(function).parameters), arguments)

    def test_classes_are_defined_in_their_files(self):
        for module, names in CLASSES.items():
            for name in names:
                with self.subTest(module, name=name):
                    self.assertIn(name, defined(module, ast.ClassDef))

    def test_methods_of_runs_are_defined_in_the_class_with_their_arguments(self):
        for name, arguments in METHODS_OF_RUNS.items():
            with self.subTest(name):
                self.assertIn(name, vars(Run))
                self.assertEqual(list(inspect.signature(vars(Run)[name]).parameters), arguments)

    def test_field_of_runs(self):
        run = Run(problem=((1,), ((),), 1, 1), setup=(1, 1, 1), first=0)
        self.assertEqual(vars(run)["first"], 0)


class Files(unittest.TestCase):
    def test_examples_of_the_readme(self):
        readme = PACKAGE.parent / "README.md"
        failed, tried = doctest.testfile(str(readme), module_relative=False)
        self.assertEqual(failed, 0)
        self.assertGreater(tried, 0)

    def test_package_holds_python_files_only(self):
        names = [path.name for path in PACKAGE.iterdir() if path.name != "__pycache__"]
        self.assertIn("__init__.py", names)
        self.assertEqual([name for name in names if not name.endswith(".py")], [])

    def test_nothing_from_outside_is_imported_or_called(self):
        for path in sorted(PACKAGE.glob("*.py")):
            for node in ast.walk(tree(path)):
                with self.subTest(path.name, line=getattr(node, "lineno", 0)):
                    self.assertNotIsInstance(node, ast.Import)
                    if isinstance(node, ast.ImportFrom):
                        self.assertIn(node.module.split(".")[0], LIBRARY + ("rowsahead",))
                    if isinstance(node, ast.Name):
                        self.assertNotIn(node.id, OUTSIDE)


if __name__ == "__main__":
    unittest.main()
