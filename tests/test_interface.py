"""The names and arguments of the interface, and the files in which they are defined (point 8)."""

import importlib
import inspect
import os
import unittest

import undobystate

FUNCTIONS = {
    "undobystate.systems": {
        "is_system": ["value"],
        "is_state": ["system", "value"],
        "is_command": ["system", "value"],
        "is_sequence": ["system", "value"],
        "led_to": ["system", "state", "sequence"],
        "run": ["system", "state", "sequence"],
    },
    "undobystate.reach": {
        "reachable": ["system"],
        "first_sequence": ["system", "state", "target"],
        "reach_evidence": ["system", "state", "target"],
        "accepts_reach": ["system", "state", "target", "value"],
    },
    "undobystate.agreeing": {
        "agree": ["system", "first", "second", "state"],
        "difference": ["system", "first", "second"],
        "one_to_one": ["system"],
        "merged": ["system", "command"],
        "accepts_merged": ["system", "command", "value"],
        "inverse": ["system", "command"],
        "exchanged": ["system", "command", "other"],
    },
    "undobystate.actions": {
        "counterparts": ["system", "state", "command"],
        "is_revocable": ["system", "state", "command"],
        "told_table": ["system", "state", "command"],
        "passes_check": ["system", "state", "command", "value"],
        "told_refutation": ["system", "state", "command"],
        "refutes": ["system", "state", "command", "value"],
        "action_evidence": ["system", "state", "command"],
        "accepts_action": ["system", "state", "command", "value"],
    },
    "undobystate.notes": {
        "least_notes": ["system", "state", "command"],
        "told_rule": ["system", "state", "command"],
        "accepts_rule": ["system", "state", "command", "value"],
        "told_spread": ["system", "state", "command"],
        "accepts_spread": ["system", "state", "command", "many", "value"],
    },
    "undobystate.insertions": {
        "is_insertable": ["system", "state", "command"],
        "insertion_table": ["system", "state", "command"],
        "accepts_insertion": ["system", "state", "command", "value"],
        "insertion_refutation": ["system", "state", "command"],
        "refutes_insertion": ["system", "state", "command", "value"],
        "can_exchange": ["system", "state", "one", "other"],
    },
    "undobystate.groups": {
        "is_regular": ["system"],
        "failing": ["system"],
        "products": ["system"],
        "product": ["system", "one", "other"],
        "inverse": ["system", "state"],
        "factor": ["system", "sequence", "command"],
        "group_evidence": ["system"],
        "accepts_group": ["system", "value"],
    },
    "undobystate.forgetting": {
        "finest": ["system"],
        "quotient": ["system"],
        "accepts_blocks": ["system", "value"],
        "joins": ["system", "one", "other"],
        "accepts_joins": ["system", "one", "other", "value"],
    },
    "undobystate.effects": {
        "count_effects": ["system"],
        "first_sequences": ["system"],
        "have_same_effect": ["system", "one", "other"],
        "effect_system": ["system"],
    },
    "undobystate.extensions": {
        "least_states": ["system"],
        "accepts_extension": ["system", "value"],
        "accepts_apart": ["system", "value"],
        "remembering_evidence": ["system"],
        "accepts_remembering": ["system", "value"],
    },
    "undobystate.withdrawing": {
        "system_with": ["system", "chosen"],
        "is_enough": ["system", "chosen"],
        "maximal": ["system"],
        "fewest": ["system"],
        "maximal_evidence": ["system", "chosen"],
        "accepts_maximal": ["system", "chosen", "value"],
    },
    "undobystate.comparing": {
        "told_map": ["first", "second"],
        "accepts_map": ["first", "second", "value"],
        "told_split": ["first", "second"],
        "accepts_split": ["first", "second", "value"],
        "are_alike": ["first", "second"],
        "told_form": ["system"],
    },
    "undobystate.scanning": {
        "scan": ["text"],
    },
}

CLASSES = {
    "undobystate.errors": ["UndoError", "BadValue", "TooLarge", "NotPossible", "TextError"],
}


class InterfaceTest(unittest.TestCase):

    def test_the_package_is_a_folder_of_its_files_alone(self):
        folder, name = os.path.split(undobystate.__file__)
        self.assertEqual(name, "__init__.py")
        # Python itself keeps what it compiled beside the files.
        others = [entry for entry in os.listdir(folder) if not entry.endswith(".py") and entry != "__pycache__"]
        self.assertEqual(others, [])

    def test_functions_have_their_arguments_and_files(self):
        for module, functions in FUNCTIONS.items():
            for name, arguments in functions.items():
                with self.subTest(module=module, name=name):
                    function = getattr(importlib.import_module(module), name)
                    self.assertTrue(inspect.isfunction(function))
                    self.assertEqual(function.__module__, module)
                    self.assertEqual(list(inspect.signature(function).parameters), arguments)

    def test_classes_have_their_files(self):
        for module, names in CLASSES.items():
            for name in names:
                with self.subTest(module=module, name=name):
                    kind = getattr(importlib.import_module(module), name)
                    self.assertTrue(inspect.isclass(kind))
                    self.assertEqual(kind.__module__, module)


if __name__ == "__main__":
    unittest.main()
