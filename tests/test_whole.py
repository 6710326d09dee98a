"""What points 2, 3, 4 and 8 promise over the whole program."""

import ast
import copy
import importlib
import os
import unittest

import undobystate
from cases import CARDS, EXAMPLE, NO_OPERATIONS, NO_SYSTEMS, NO_TEXTS, PLACE, RING, SIX, spoiled
from interface import FUNCTIONS
from undobystate.editor import Editor
from undobystate.errors import BadValue, NotPossible, TextError, TooLarge, UndoError
from undobystate.journals import replayed

EFFECTS_OF_PLACE = (CARDS, (0, 1, 0, 2, 1, 2))
TEXT = "3 start 0; a 1 0 2; b 1 1 0"
JOURNAL = (("execute", 0), ("execute", 1), ("revoke", 0))
RECORDS = ((("execute", 0), 1), (("execute", 1), 2), (("revoke", 0), 0))

# For each function arguments for which it raises no error.
CALLS = {
    "undobystate.systems.is_system": (PLACE,),
    "undobystate.systems.is_state": (PLACE, 1),
    "undobystate.systems.is_command": (PLACE, 1),
    "undobystate.systems.is_sequence": (PLACE, (0, 1)),
    "undobystate.systems.led_to": (PLACE, 1, (0, 1)),
    "undobystate.systems.run": (PLACE, 1, (0, 1)),
    "undobystate.reach.reachable": (EXAMPLE,),
    "undobystate.reach.first_sequence": (EXAMPLE, 2, 1),
    "undobystate.reach.reach_evidence": (EXAMPLE, 0, 2),
    "undobystate.reach.accepts_reach": (EXAMPLE, 0, 2, ("closed", (0, 1))),
    "undobystate.agreeing.agree": (EXAMPLE, (0, 0), (), 2),
    "undobystate.agreeing.difference": (EXAMPLE, (0, 1), (1, 0)),
    "undobystate.agreeing.one_to_one": (EXAMPLE,),
    "undobystate.agreeing.merged": (EXAMPLE, 1),
    "undobystate.agreeing.accepts_merged": (EXAMPLE, 1, (0, 1)),
    "undobystate.agreeing.inverse": (EXAMPLE, 0),
    "undobystate.agreeing.exchanged": (PLACE, 0, 1),
    "undobystate.actions.counterparts": (PLACE, 0, 0),
    "undobystate.actions.is_revocable": (PLACE, 0, 0),
    "undobystate.actions.told_table": (PLACE, 2, 0),
    "undobystate.actions.passes_check": (PLACE, 2, 0, (0, 1, 2)),
    "undobystate.actions.told_refutation": (PLACE, 0, 0),
    "undobystate.actions.refutes": (PLACE, 0, 0, ((0,), (0, 1))),
    "undobystate.actions.action_evidence": (PLACE, 0, 0),
    "undobystate.actions.accepts_action": (PLACE, 0, 0, ("refutation", (0,), (0, 1))),
    "undobystate.notes.least_notes": (PLACE, 0, 0),
    "undobystate.notes.told_rule": (PLACE, 0, 0),
    "undobystate.notes.accepts_rule": (RING, 0, 0, (0, ((2,), (0,), (1,)), (((0,),), ((0,),), ((0,),)))),
    "undobystate.notes.told_spread": (PLACE, 0, 0),
    "undobystate.notes.accepts_spread": (PLACE, 0, 0, 2, ((0,), (0, 1))),
    "undobystate.insertions.is_insertable": (PLACE, 0, 1),
    "undobystate.insertions.insertion_table": (PLACE, 0, 1),
    "undobystate.insertions.accepts_insertion": (PLACE, 0, 1, (0, 1, 2)),
    "undobystate.insertions.insertion_refutation": (PLACE, 0, 0),
    "undobystate.insertions.refutes_insertion": (PLACE, 0, 0, ((), (1,))),
    "undobystate.insertions.can_exchange": (PLACE, 0, 0, 1),
    "undobystate.groups.is_regular": (CARDS,),
    "undobystate.groups.failing": (PLACE,),
    "undobystate.groups.products": (CARDS,),
    "undobystate.groups.product": (CARDS, 1, 2),
    "undobystate.groups.inverse": (CARDS, 3),
    "undobystate.groups.factor": (CARDS, (0,), 1),
    "undobystate.groups.group_evidence": (PLACE,),
    "undobystate.groups.accepts_group": (PLACE, ("refutation", 0, (0,), (0, 1))),
    "undobystate.forgetting.finest": (PLACE,),
    "undobystate.forgetting.quotient": (PLACE,),
    "undobystate.forgetting.accepts_blocks": (PLACE, (4, 4, 4)),
    "undobystate.forgetting.joins": (PLACE, 0, 2),
    "undobystate.forgetting.accepts_joins": (PLACE, 1, 2, (("action", 0, 0, (0,), (0, 1)),)),
    "undobystate.effects.count_effects": (PLACE,),
    "undobystate.effects.first_sequences": (PLACE,),
    "undobystate.effects.have_same_effect": (PLACE, (0, 1, 0), (1, 0, 1)),
    "undobystate.effects.effect_system": (PLACE,),
    "undobystate.extensions.least_states": (PLACE,),
    "undobystate.extensions.accepts_extension": (PLACE, EFFECTS_OF_PLACE),
    "undobystate.extensions.accepts_apart": (PLACE, ((), (0,), (1,))),
    "undobystate.extensions.remembering_evidence": (EXAMPLE,),
    "undobystate.extensions.accepts_remembering": (PLACE, ("extension", EFFECTS_OF_PLACE)),
    "undobystate.withdrawing.system_with": (PLACE, (1,)),
    "undobystate.withdrawing.is_enough": (PLACE, (0, 1)),
    "undobystate.withdrawing.maximal": (PLACE,),
    "undobystate.withdrawing.fewest": (PLACE,),
    "undobystate.withdrawing.maximal_evidence": (PLACE, (0,)),
    "undobystate.withdrawing.accepts_maximal": (PLACE, (0,), (((0, 1), (1, 0)), (("refutation", 0, (0,), (0, 1)),))),
    "undobystate.comparing.told_map": (CARDS, PLACE),
    "undobystate.comparing.accepts_map": (CARDS, PLACE, (0, 1, 0, 2, 1, 2)),
    "undobystate.comparing.told_split": (PLACE, CARDS),
    "undobystate.comparing.accepts_split": (PLACE, CARDS, ((), (1,))),
    "undobystate.comparing.are_alike": (PLACE, CARDS),
    "undobystate.comparing.told_form": (EXAMPLE,),
    "undobystate.scanning.scan": (TEXT,),
    "undobystate.reading.next_tokens": (TEXT, "system"),
    "undobystate.reading.read_system": (TEXT,),
    "undobystate.reading.read_sequence": (PLACE, "ab b"),
    "undobystate.writing.system_text": (PLACE,),
    "undobystate.writing.sequence_text": (PLACE, (0, 1)),
    "undobystate.journals.replayed": (PLACE, JOURNAL),
    "undobystate.journals.are_right": (PLACE, RECORDS),
}

# The functions of which the document says that they return a list.
LISTS = ["undobystate.effects.first_sequences", "undobystate.withdrawing.maximal", "undobystate.scanning.scan",
         "undobystate.reading.next_tokens"]

# Names of arguments for which every value is valid, and of functions which do not check the system.
JUDGED = ("value", "records")
UNCHECKED = ("undobystate.systems.is_state", "undobystate.systems.is_command", "undobystate.systems.is_sequence")

# Whatever an argument can be replaced with.
WRONG = [None, True, False, -1, 200, 0.5, "", "?", [], {}, (), (None,), (True,), ((),), [0], "a\n", b"a"]


def function_called(name):
    """Return the function with this full name."""
    module, _, short = name.rpartition(".")
    return getattr(importlib.import_module(module), short)


def arguments_of(name):
    """Return the names of the arguments of the function with this full name."""
    module, _, short = name.rpartition(".")
    return FUNCTIONS[module][short]


def plain(result):
    """Return what the result tells, of an editor its journal."""
    return ("editor", result.journal()) if isinstance(result, Editor) else result


def rebuilt(value):
    """Return an equal value whose tuples are other objects."""
    return tuple([rebuilt(item) for item in value]) if isinstance(value, tuple) else value


def kinds_in(value):
    """Return the set of the kinds of all values within this one."""
    kinds = {type(value)}
    if isinstance(value, (list, tuple)):
        for item in value:
            kinds |= kinds_in(item)
    return kinds


class CallsTest(unittest.TestCase):

    def test_each_function_of_the_interface_is_called(self):
        names = [f"{module}.{name}" for module, functions in FUNCTIONS.items() for name in functions]
        self.assertEqual(sorted(CALLS), sorted(names))
        for name, arguments in CALLS.items():
            self.assertEqual(len(arguments), len(arguments_of(name)))

    def test_equal_results_for_equal_arguments(self):
        first = {name: plain(function_called(name)(*arguments)) for name, arguments in CALLS.items()}
        for _ in range(2):
            for name, arguments in reversed(CALLS.items()):
                with self.subTest(name=name):
                    result = plain(function_called(name)(*rebuilt(arguments)))
                    self.assertEqual(repr(result), repr(first[name]))
                    self.assertEqual(kinds_in(result), kinds_in(first[name]))

    def test_arguments_by_their_names(self):
        for name, arguments in CALLS.items():
            function = function_called(name)
            with self.subTest(name=name):
                told = function(**dict(zip(arguments_of(name), arguments)))
                self.assertEqual(plain(told), plain(function(*arguments)))

    def test_kinds_of_results(self):
        for name, arguments in CALLS.items():
            result = function_called(name)(*arguments)
            with self.subTest(name=name):
                if name == "undobystate.journals.replayed":
                    self.assertIsInstance(result, Editor)
                elif name in LISTS:
                    self.assertIs(type(result), list)
                    self.assertNotIn(list, kinds_in(tuple(result)))
                else:
                    self.assertLessEqual(kinds_in(result), {int, str, bool, type(None), tuple})

    def test_judges_return_true_or_false(self):
        words = ("accepts", "is", "are", "can", "have", "passes")
        judges = [name for name in CALLS if name.rpartition(".")[2].split("_")[0] in words]
        self.assertGreater(len(judges), 20)
        for name in judges:
            self.assertIs(type(function_called(name)(*CALLS[name])), bool)

    def test_no_returned_list_is_used_again(self):
        for name in LISTS:
            function, arguments = function_called(name), CALLS[name]
            first = copy.deepcopy(function(*arguments))
            told = function(*arguments)
            told.append("other")
            del told[0]
            with self.subTest(name=name):
                self.assertEqual(function(*arguments), first)
                self.assertIsNot(function(*arguments), function(*arguments))
        for name, arguments in CALLS.items():
            self.assertEqual(plain(function_called(name)(*arguments)), plain(function_called(name)(*arguments)))


class ErrorsTest(unittest.TestCase):

    def outcome(self, name, arguments):
        """Return what the call returns, or the error that it raises; each of its errors is an UndoError."""
        try:
            return plain(function_called(name)(*arguments))
        except (BadValue, NotPossible, TooLarge, TextError) as error:
            self.assertIsInstance(error, UndoError)
            self.assertIsInstance(error, ValueError)
            return (type(error).__name__, vars(error))

    def test_whatever_is_passed_only_the_errors_of_the_program_are_raised(self):
        for name, arguments in CALLS.items():
            for at in range(len(arguments)):
                if at == 0 and name in UNCHECKED:
                    continue
                for value in WRONG + spoiled(arguments[at])[:200]:
                    with self.subTest(name=name, at=at, value=value):
                        self.outcome(name, (*arguments[:at], value, *arguments[at + 1:]))

    def test_an_error_changes_nothing_and_no_argument_is_modified(self):
        first = {name: self.outcome(name, arguments) for name, arguments in CALLS.items()}
        for name, arguments in CALLS.items():
            for at in range(len(arguments)):
                if at == 0 and name in UNCHECKED:
                    continue
                for value in copy.deepcopy(WRONG):
                    before = repr(value)
                    self.outcome(name, (*arguments[:at], value, *arguments[at + 1:]))
                    with self.subTest(name=name, at=at, value=value):
                        self.assertEqual(repr(value), before)
            with self.subTest(name=name):
                self.assertEqual(self.outcome(name, arguments), first[name])

    def test_the_first_wrong_argument_is_named(self):
        for name, arguments in CALLS.items():
            names = arguments_of(name)
            if name in UNCHECKED or names[0] in JUDGED:
                continue
            for at, first in enumerate(names):
                if first not in JUDGED:
                    # None is no value of any argument that is checked.
                    wrong = (*arguments[:at], *[None] * (len(arguments) - at))
                    with self.subTest(name=name, first=first):
                        self.assertEqual(self.outcome(name, wrong), ("BadValue", {"name": first}))
                        self.assertEqual(self.outcome(name, wrong), self.outcome(name, wrong))

    def test_for_the_judges_every_value_is_valid(self):
        values = WRONG + NO_SYSTEMS + NO_TEXTS + NO_OPERATIONS
        values += [PLACE, SIX, TEXT, JOURNAL, RECORDS, object(), Editor, Editor(PLACE)]
        for name, arguments in CALLS.items():
            if arguments_of(name)[-1] in JUDGED:
                for value in values:
                    with self.subTest(name=name, value=value):
                        self.assertIn(function_called(name)(*arguments[:-1], value), (True, False))


class CopiesTest(unittest.TestCase):

    def test_an_editor_is_not_changed_by_what_is_done_to_what_it_told(self):
        editor = replayed(PLACE, JOURNAL)
        before = [editor.entries(), editor.states(), editor.journal(), editor.revocable(), editor.records()]
        for told in before:
            self.assertIs(type(told), tuple)
            self.assertNotIn(list, kinds_in(told))
        editor.twin().act(("execute", 0))
        replayed(PLACE, editor.journal()).undo()
        after = [editor.entries(), editor.states(), editor.journal(), editor.revocable(), editor.records()]
        self.assertEqual(after, before)

    def test_editors_of_equal_systems_tell_the_same(self):
        one, other = replayed(PLACE, JOURNAL), replayed(rebuilt(PLACE), rebuilt(JOURNAL))
        self.assertEqual((one.records(), one.revocable()), (other.records(), other.revocable()))


def nodes_of_files():
    """Yield each file of the package with the list of the nodes of its code."""
    folder = os.path.dirname(undobystate.__file__)
    for entry in sorted(os.listdir(folder)):
        if entry.endswith(".py"):
            with open(os.path.join(folder, entry), encoding="utf-8") as file:
                yield entry, list(ast.walk(ast.parse(file.read())))


class FilesTest(unittest.TestCase):

    def test_the_package_imports_nothing_but_its_own_files(self):
        for entry, nodes in nodes_of_files():
            with self.subTest(entry=entry):
                self.assertEqual([node for node in nodes if isinstance(node, ast.Import)], [])
                modules = [node.module for node in nodes if isinstance(node, ast.ImportFrom)]
                self.assertEqual([module for module in modules if module.split(".")[0] != "undobystate"], [])

    def test_the_package_calls_nothing_that_reads_or_prints(self):
        for entry, nodes in nodes_of_files():
            names = {node.id for node in nodes if isinstance(node, ast.Name)}
            with self.subTest(entry=entry):
                self.assertEqual(names & {"open", "input", "print", "eval", "exec", "id", "hash"}, set())


if __name__ == "__main__":
    unittest.main()
