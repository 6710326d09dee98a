"""The names and arguments of the interface, and the files in which they are defined (point 8)."""

import importlib
import inspect
import os
import unittest

import undobystate
from interface import CLASSES, FUNCTIONS, METHODS
from undobystate.editor import Editor


class InterfaceTest(unittest.TestCase):

    def test_the_package_is_a_folder_of_its_files_alone(self):
        folder, name = os.path.split(undobystate.__file__)
        self.assertEqual(name, "__init__.py")
        # Python itself keeps what it compiled beside the files.
        others = [entry for entry in os.listdir(folder) if not entry.endswith(".py") and entry != "__pycache__"]
        self.assertEqual(others, [])

    def test_functions_have_their_arguments_and_files(self):
        for module, functions in FUNCTIONS.items():
            for name, arguments in functions.items():
                with self.subTest(module=module, name=name):
                    function = getattr(importlib.import_module(module), name)
                    self.assertTrue(inspect.isfunction(function))
                    self.assertEqual(function.__module__, module)
                    self.assertEqual(list(inspect.signature(function).parameters), arguments)

    def test_classes_have_their_arguments_and_files(self):
        for module, classes in CLASSES.items():
            for name, arguments in classes.items():
                with self.subTest(module=module, name=name):
                    kind = getattr(importlib.import_module(module), name)
                    self.assertTrue(inspect.isclass(kind))
                    self.assertEqual(kind.__module__, module)
                    if arguments is not None:
                        self.assertIn("__init__", vars(kind))
                        self.assertEqual(list(inspect.signature(kind).parameters), arguments)

    def test_an_editor_has_its_methods_itself(self):
        for name, arguments in METHODS.items():
            with self.subTest(name=name):
                method = vars(Editor)[name]
                self.assertTrue(inspect.isfunction(method))
                self.assertEqual(method.__module__, "undobystate.editor")
                self.assertEqual(list(inspect.signature(method).parameters), ["self"] + arguments)


if __name__ == "__main__":
    unittest.main()
