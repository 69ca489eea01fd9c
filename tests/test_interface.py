"""The interface: names, arguments, and the files that define them."""

import ast
import importlib
import inspect
import os
import unittest

FUNCTIONS = {
    "texts": {
        "is_text": ["value"],
        "is_wish": ["value"],
        "is_script": ["length", "value"],
    },
    "commands": {
        "apply": ["text", "script"],
        "idle": ["text", "script"],
    },
    "distances": {
        "distance": ["text", "wish"],
        "best_counts": ["text", "wish"],
        "counts_cost": ["outs", "ins"],
        "is_certificate": ["text", "wish", "value"],
        "plan": ["text", "wish"],
    },
    "scripts": {
        "effects": ["length", "script"],
        "difference": ["length", "first", "second"],
        "equal": ["length", "first", "second"],
        "commute": ["one", "other"],
        "fewest_equal": ["length", "script"],
        "shortest_equal": ["length", "script"],
        "sources": ["script", "result"],
    },
    "search": {
        "count_plans": ["text", "target"],
        "hidden_commands": ["text", "script", "position", "result"],
    },
}

PACKAGE = os.path.join(os.path.dirname(os.path.abspath(__file__)), "..", "indentsteps")


def defined_arguments(module):
    """Return the argument names of each function that a `def` in the module's file makes."""
    with open(os.path.join(PACKAGE, module + ".py"), encoding="utf-8") as file:
        body = ast.parse(file.read()).body
    return {node.name: [argument.arg for argument in node.args.args]
            for node in body if isinstance(node, ast.FunctionDef)}


class Interface(unittest.TestCase):

    def test_each_function_is_defined_in_its_file(self):
        for module, functions in FUNCTIONS.items():
            found = defined_arguments(module)
            for name, arguments in functions.items():
                self.assertEqual(found.get(name), arguments, (module, name))

    def test_each_function_can_be_imported_and_takes_its_arguments(self):
        for module, functions in FUNCTIONS.items():
            held = importlib.import_module("indentsteps." + module)
            for name, arguments in functions.items():
                function = getattr(held, name)
                self.assertEqual(function.__module__, "indentsteps." + module)
                self.assertEqual(list(inspect.signature(function).parameters), arguments)

    def test_the_package_holds_only_its_files(self):
        found = [name for name in sorted(os.listdir(PACKAGE)) if name != "__pycache__"]
        self.assertIn("__init__.py", found)
        self.assertEqual([name for name in found if not name.endswith(".py")], [])


if __name__ == "__main__":
    unittest.main()
