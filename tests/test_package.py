"""Tests of the package as a whole: its interface, and the limits on its files."""

import ast
import importlib
import inspect
import os
import unittest

FOLDER = os.path.join(os.path.dirname(os.path.abspath(__file__)), "..", "retime")

# The interface of DOC.md: file, name, parameters.
INTERFACE = [
    ("plans", "is_name", "(thing)"),
    ("plans", "Plan", "(horizon, times, lags=())"),
    ("text", "format_plan", "(plan)"),
    ("text", "parse_plan", "(text)"),
    ("chains", "distance", "(plan, first, second)"),
    ("chains", "chain", "(plan, first, second)"),
    ("conflicts", "violations", "(plan)"),
    ("conflicts", "conflicts", "(plan)"),
    ("conflicts", "before", "(plan, node)"),
    ("conflicts", "after", "(plan, node)"),
    ("keeping", "can_keep", "(plan, kept)"),
    ("keeping", "earliest", "(plan, kept)"),
    ("keeping", "latest", "(plan, kept)"),
    ("repairs", "obstacle", "(plan, prices)"),
    ("repairs", "lowest", "(plan, prices)"),
    ("repairs", "highest", "(plan, prices)"),
    ("repairs", "repair", "(plan, prices)"),
    ("certificates", "certificate", "(plan, prices)"),
    ("certificates", "check_certificate", "(plan, prices, thing, bar)"),
    ("lattice", "is_cheapest", "(plan, prices, kept)"),
    ("lattice", "meet", "(plan, prices, first, second)"),
    ("lattice", "join", "(plan, prices, first, second)"),
    ("lattice", "always_kept", "(plan, prices)"),
    ("lattice", "sometimes_kept", "(plan, prices)"),
    ("steps", "steps", "(plan, prices, name)"),
    ("slack", "slack", "(plan, name)"),
    ("slack", "fixed", "(plan)"),
    ("slack", "displaced", "(plan)"),
    ("edits", "apply_edits", "(plan, edits)"),
    ("history", "History", "(plan)"),
    ("registry", "Registry", "()"),
    ("shell", "Shell", "()"),
    ("errors", "InconsistentLags", "(cycle)"),
    ("errors", "ParseError", "(line)"),
    ("errors", "CannotKeep", "(pair)"),
    ("errors", "NoRepair", "(pair)"),
    ("errors", "InvalidEdit", "(index)"),
]
# The methods of the classes: file, class, and the parameters of each method.
METHODS = [
    ("plans", "Plan", {
        "times": "()", "time": "(name)", "lags": "()", "__len__": "()", "__eq__": "(other)",
    }),
    ("history", "History", {
        "update": "(edits, prices, hold=())", "plan": "(version=None)", "moved": "(first, second)", "spent": "()",
        "copy": "()", "__len__": "()",
    }),
    ("registry", "Registry", {
        "create": "(name, horizon)", "price": "(name, task, amount)", "update": "(name, edits, hold)", "remove": "(name)",
        "mark": "(label)", "back": "(label)", "batch": "(commands)", "names": "()", "plan": "(name)", "prices": "(name)",
        "spent": "(name)", "log": "()", "copy": "()",
    }),
    ("shell", "Shell", {"run": "(line)"}),
]


def sources():
    """Return the pairs of the name and the text of each file of the package."""
    found = []
    for name in sorted(os.listdir(FOLDER)):
        if name != "__pycache__":
            with open(os.path.join(FOLDER, name), encoding="utf-8") as file:
                found.append((name, file.read()))
    return found


class InterfaceTest(unittest.TestCase):
    def test_names_and_arguments(self):
        for module, name, parameters in INTERFACE:
            found = getattr(importlib.import_module("retime." + module), name)
            self.assertEqual(str(inspect.signature(found)), parameters, name)

    def test_names_are_defined_in_their_file(self):
        for module, name, _ in INTERFACE:
            found = getattr(importlib.import_module("retime." + module), name)
            self.assertEqual(found.__module__, "retime." + module, name)

    def test_methods_are_defined_in_their_class(self):
        for module, name, methods in METHODS:
            found = getattr(importlib.import_module("retime." + module), name)
            self.assertIn("__init__", vars(found))
            for method, parameters in methods.items():
                self.assertIn(method, vars(found))
                expected = parameters.replace("(", "(self, ").replace("(self, )", "(self)").replace("=(self)", "=()")
                self.assertEqual(str(inspect.signature(vars(found)[method])), expected, method)

    def test_errors_are_direct_subclasses_of_the_base(self):
        errors = importlib.import_module("retime.errors")
        names = [name for name, thing in vars(errors).items() if inspect.isclass(thing)]
        self.assertEqual(len(names), 16)
        for name in names:
            self.assertEqual(getattr(errors, name).__base__, ValueError if name == "RetimeError" else errors.RetimeError)


class FilesTest(unittest.TestCase):
    def test_the_folder_holds_python_files_only(self):
        for name, _ in sources():
            self.assertTrue(name.endswith(".py"), name)

    def test_characters_and_sizes(self):
        for name, text in sources():
            lines = text.split("\n")
            self.assertLessEqual(len(lines), 399, name)
            for line in lines:
                self.assertLessEqual(len(line), 120, name)
                self.assertTrue(all(" " <= letter <= "~" for letter in line), name)

    def test_functions_have_at_most_forty_lines(self):
        for name, text in sources():
            for node in ast.walk(ast.parse(text)):
                if isinstance(node, ast.FunctionDef):
                    self.assertLessEqual(node.end_lineno - node.lineno + 1, 40, node.name)

    def test_imports_are_of_the_package_only(self):
        for name, text in sources():
            for node in ast.walk(ast.parse(text)):
                self.assertNotIsInstance(node, ast.Import, name)
                if isinstance(node, ast.ImportFrom):
                    self.assertTrue(node.module.startswith("retime."), name)


if __name__ == "__main__":
    unittest.main()
