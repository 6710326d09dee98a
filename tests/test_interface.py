"""The names and arguments of the interface, and the files in which they are defined (point 8)."""

import importlib
import inspect
import os
import unittest

import undobystate

FUNCTIONS = {
    "undobystate.systems": {
        "is_system": ["value"],
        "is_state": ["system", "value"],
        "is_command": ["system", "value"],
        "is_sequence": ["system", "value"],
        "led_to": ["system", "state", "sequence"],
        "run": ["system", "state", "sequence"],
    },
    "undobystate.reach": {
        "reachable": ["system"],
        "first_sequence": ["system", "state", "target"],
        "reach_evidence": ["system", "state", "target"],
        "accepts_reach": ["system", "state", "target", "value"],
    },
}

CLASSES = {
    "undobystate.errors": ["UndoError", "BadValue", "TooLarge", "NotPossible", "TextError"],
}


class InterfaceTest(unittest.TestCase):

    def test_the_package_is_a_folder_of_its_files_alone(self):
        folder, name = os.path.split(undobystate.__file__)
        self.assertEqual(name, "__init__.py")
        # Python itself keeps what it compiled beside the files.
        others = [entry for entry in os.listdir(folder) if not entry.endswith(".py") and entry != "__pycache__"]
        self.assertEqual(others, [])

    def test_functions_have_their_arguments_and_files(self):
        for module, functions in FUNCTIONS.items():
            for name, arguments in functions.items():
                with self.subTest(module=module, name=name):
                    function = getattr(importlib.import_module(module), name)
                    self.assertTrue(inspect.isfunction(function))
                    self.assertEqual(function.__module__, module)
                    self.assertEqual(list(inspect.signature(function).parameters), arguments)

    def test_classes_have_their_files(self):
        for module, names in CLASSES.items():
            for name in names:
                with self.subTest(module=module, name=name):
                    kind = getattr(importlib.import_module(module), name)
                    self.assertTrue(inspect.isclass(kind))
                    self.assertEqual(kind.__module__, module)


if __name__ == "__main__":
    unittest.main()
