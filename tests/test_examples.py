"""The examples of the interface as they stand there, and those of README.md."""

import doctest
import os
import unittest

from undobystate.errors import TextError
from undobystate.reading import read_system

README = os.path.join(os.path.dirname(os.path.dirname(os.path.abspath(__file__))), "README.md")

AGREEING = """
>>> from undobystate.agreeing import accepts_merged, agree, difference, exchanged, inverse, merged, one_to_one
>>> from undobystate.reach import accepts_reach, first_sequence, reach_evidence, reachable
>>> from undobystate.systems import led_to, run
>>> system = (3, 0, ((1, 0, 2), (1, 1, 0)))
>>> led_to(system, 2, (1, 0)), run(system, 0, (0, 0, 1)), reachable(system)
(1, (0, 1, 0, 1), (0, 1))
>>> first_sequence(system, 2, 1), first_sequence(system, 0, 2) is None, reach_evidence(system, 0, 2), accepts_reach(system, 2, 0, ("path", (1, 0, 0)))
((1, 0), True, ('closed', (0, 1)), True)
>>> one_to_one(system), merged(system, 1), accepts_merged(system, 1, (0, 1)), inverse(system, 0)
((0,), (0, 1), True, (1, 0, None))
>>> agree(system, (0, 0), (), 2), difference(system, (0, 1), (1,)), difference(system, (0, 1), (1, 0)), exchanged(system, 0, 1)
(True, None, 0, ())
"""

ACTIONS = """
>>> from undobystate.actions import accepts_action, action_evidence, counterparts, is_revocable, passes_check, refutes, told_refutation, told_table
>>> cards = (6, 0, ((1, 0, 4, 5, 2, 3), (2, 3, 0, 1, 5, 4)))
>>> place = (3, 0, ((1, 0, 2), (0, 2, 1)))
>>> is_revocable(cards, 0, 0), told_table(cards, 0, 0), is_revocable(place, 0, 0), counterparts(place, 0, 0)
(True, (1, 0, 3, 2, 5, 4), False, ((1, 2), (0, 2), (0, 1)))
>>> told_refutation(place, 0, 0), refutes(place, 0, 0, ((), (1, 1, 0, 1))), told_table(place, 2, 0)
(((0,), (0, 1)), False, (0, 1, 2))
>>> passes_check(cards, 0, 0, (1, 0, 3, 2, 5, 4)), passes_check(cards, 0, 0, (1, 0, 3, 2, None, 4)), action_evidence(place, 0, 0)
(True, False, ('refutation', (0,), (0, 1)))
>>> accepts_action(cards, 0, 0, ("table", (1, 0, 3, 2, 5, 4))), accepts_action(place, 0, 0, ("refutation", (0,), (0, 1)))
(True, True)
"""

NOTES = """
>>> from undobystate.notes import accepts_rule, accepts_spread, least_notes, told_rule, told_spread
>>> place = (3, 0, ((1, 0, 2), (0, 2, 1)))
>>> least_notes(place, 0, 0), told_spread(place, 0, 0)
(2, ((0,), (0, 1)))
>>> told_rule(place, 0, 0)
(0, ((1, 2), (0, 2), (0, 1)), (((0, 1), (1, 0)), ((0, 0), (1, 1)), ((1, 0), (0, 1))))
>>> accepts_rule(place, 0, 0, told_rule(place, 0, 0)), accepts_spread(place, 0, 0, 2, ((0,), (0, 1)))
(True, True)
>>> turn = (3, 0, ((1, 2, 0),))
>>> least_notes(turn, 0, 0), told_rule(turn, 0, 0), told_spread(turn, 0, 0)
(1, (0, ((2,), (0,), (1,)), (((0,),), ((0,),), ((0,),))), ((0, 0),))
>>> accepts_rule(turn, 0, 0, (0, ((2,), (0,), (0,)), (((0,),), ((0,),), ((0,),))))
False
"""

INSERTIONS = """
>>> from undobystate.insertions import accepts_insertion, can_exchange, insertion_refutation, insertion_table, is_insertable, refutes_insertion
>>> place = (3, 0, ((1, 0, 2), (0, 2, 1)))
>>> is_insertable(place, 0, 0), insertion_refutation(place, 0, 0), refutes_insertion(place, 0, 0, ((), (1,))), refutes_insertion(place, 0, 0, ((), (0,)))
(False, ((), (1,)), True, False)
>>> is_insertable(place, 0, 1), insertion_table(place, 0, 1), insertion_table(place, 0, 0) is None, can_exchange(place, 0, 0, 1)
(True, (0, 1, 2), True, False)
>>> turn = (3, 0, ((1, 2, 0),))
>>> insertion_table(turn, 0, 0), accepts_insertion(turn, 0, 0, (1, 2, 0)), accepts_insertion(turn, 0, 0, (1, 2, None)), can_exchange(turn, 0, 0, 0)
((1, 2, 0), True, False, True)
>>> stop = (3, 0, ((1, 1, 1), (2, 2, 2)))
>>> insertion_table(stop, 0, 0), accepts_insertion(stop, 0, 0, (1, 1, 2)), insertion_refutation(stop, 0, 0) is None
((1, 1, 2), True, True)
"""

GROUPS = """
>>> from undobystate.groups import accepts_group, factor, failing, group_evidence, inverse, is_regular, product, products
>>> cards = (6, 0, ((1, 0, 4, 5, 2, 3), (2, 3, 0, 1, 5, 4)))
>>> place = (3, 0, ((1, 0, 2), (0, 2, 1)))
>>> is_regular(cards), failing(cards), is_regular(place), failing(place), group_evidence(place)
(True, (), False, (0,), ('refutation', 0, (0,), (0, 1)))
>>> product(cards, 1, 2), product(cards, 2, 1), inverse(cards, 3), factor(cards, (0,), 1)
(4, 3, 4, 5)
>>> products((2, 0, ((1, 0),))), accepts_group(cards, ("rows", products(cards))), accepts_group((2, 0, ((1, 1),)), ("refutation", 0, (), (0,)))
(((0, 1), (1, 0)), True, True)
>>> failing((2, 0, ((1, 1),))), is_regular((3, 0, ())), products((3, 1, ()))
((0,), True, ((1,),))
"""

FORGETTING = """
>>> from undobystate.forgetting import accepts_blocks, accepts_joins, finest, joins, quotient
>>> place, turn = (3, 0, ((1, 0, 2), (0, 2, 1))), (4, 1, ((0, 2, 3, 1),))
>>> finest(place), quotient(place), finest(turn), quotient(turn)
((0, 0, 0), (1, 0, ((0,), (0,))), (None, 0, 1, 2), (3, 0, ((1, 2, 0),)))
>>> accepts_joins(place, 1, 2, (("action", 0, 0, (0,), (0, 1)),)), accepts_joins(place, 0, 2, (("action", 0, 0, (0,), (0, 1)), ("command", 1, 2, 0)))
(True, True)
>>> accepts_blocks(place, (4, 4, 4)), accepts_blocks(place, (0, 1, 1)), accepts_blocks(turn, (None, 0, 1, 2)), accepts_blocks(turn, (0, 0, 0, 0))
(True, False, True, False)
>>> joins(turn, 1, 2) is None, accepts_joins(turn, 1, 1, ()), accepts_joins(place, 0, 1, (("command", 0, 1, 0),))
(True, True, False)
"""

EXTENSIONS = """
>>> from undobystate.effects import count_effects, effect_system, first_sequences, have_same_effect
>>> from undobystate.extensions import accepts_apart, accepts_extension, accepts_remembering, least_states, remembering_evidence
>>> place = (3, 0, ((1, 0, 2), (0, 2, 1)))
>>> count_effects(place), first_sequences(place), have_same_effect(place, (0, 1, 0), (1, 0, 1)), least_states(place)
(6, [(), (0,), (1,), (0, 1), (1, 0), (0, 1, 0)], True, 6)
>>> effect_system(place)
((6, 0, ((1, 0, 4, 5, 2, 3), (2, 3, 0, 1, 5, 4))), (0, 1, 0, 2, 1, 2))
>>> accepts_extension(place, effect_system(place)), accepts_extension(place, (place, (0, 1, 2))), accepts_apart(place, ((), (0,), (1,))), accepts_apart(place, ((), (0, 0)))
(True, True, True, False)
>>> remembering_evidence(place)[0], accepts_remembering(place, ("extension", effect_system(place))), accepts_remembering(place, ("extension", (place, (0, 1, 2))))
('extension', True, False)
>>> stop = (3, 0, ((1, 1, 1), (2, 2, 2)))
>>> least_states(stop) is None, count_effects(stop), accepts_remembering(stop, ("merge", (0, (), (0,)))), accepts_remembering(stop, ("merge", (0, (0,), (0, 0))))
(True, 3, True, False)
"""

WITHDRAWING = """
>>> from undobystate.withdrawing import accepts_maximal, fewest, is_enough, maximal, maximal_evidence, system_with
>>> place = (3, 0, ((1, 0, 2), (0, 2, 1)))
>>> is_enough(place, (0,)), is_enough(place, (0, 1)), maximal(place), fewest(place), system_with(place, (1,))
(True, False, [(0,), (1,)], (1,), (3, 0, ((0, 2, 1),)))
>>> accepts_maximal(place, (0,), (((0, 1), (1, 0)), (("refutation", 0, (0,), (0, 1)),))), accepts_maximal(place, (0,), maximal_evidence(place, (0,)))
(True, True)
>>> maximal_evidence(place, ()) is None, maximal_evidence(place, (0, 1)) is None, accepts_maximal(place, (), (((0,),), ())), maximal((2, 0, ((1, 1), (1, 0)))), fewest((2, 0, ()))
(True, True, False, [(1,)], ())
"""

COMPARING = """
>>> from undobystate.comparing import accepts_map, accepts_split, are_alike, told_form, told_map, told_split
>>> place, cards = (3, 0, ((1, 0, 2), (0, 2, 1))), (6, 0, ((1, 0, 4, 5, 2, 3), (2, 3, 0, 1, 5, 4)))
>>> told_map(cards, place), told_map(place, cards) is None, told_split(place, cards), told_split(cards, place) is None
((0, 1, 0, 2, 1, 2), True, ((), (1,)), True)
>>> accepts_map(cards, place, (0, 1, 0, 2, 1, 2)), accepts_map(cards, place, (0, 1, 0, 2, 1, None)), accepts_split(place, cards, ((), (0, 0, 1)))
(True, False, True)
>>> told_form((4, 2, ((0, 3, 1, 3),))), are_alike((4, 2, ((0, 3, 1, 3),)), (3, 0, ((1, 2, 2),))), are_alike(place, cards)
((3, 0, ((1, 2, 2),)), True, False)
"""

WRITING = """
>>> from undobystate.reading import next_tokens, read_sequence, read_system
>>> from undobystate.writing import sequence_text, system_text
>>> system = read_system("3 start 0; a 1 0 2; b 1 1 0")
>>> system, read_sequence(system, "ab b"), read_system("1 start 0")
((3, 0, ((1, 0, 2), (1, 1, 0))), (0, 1, 1), (1, 0, ()))
>>> system_text(system), sequence_text(system, (1, 0)), sequence_text(system, ())
('3 start 0; a 1 0 2; b 1 1 0', 'ba', '')
>>> next_tokens("3", "system"), next_tokens("3 start 0", "system"), next_tokens("3 start 0; a", "system"), next_tokens("", "sequence")
(['"start"'], ['";"', 'the end'], ['a number', '";"', 'the end'], ['a letter', 'the end'])

>>> from undobystate.reading import read_system
>>> read_system("2 start 0; a 1; b 0 0")
raises TextError
"""

JOURNALS = """
>>> from undobystate.editor import Editor
>>> from undobystate.journals import are_right, replayed
>>> editor = Editor((3, 0, ((1, 2, 0),)))
>>> editor.act(("execute", 0)), editor.act(("execute", 0)), editor.act(("execute", 0)), editor.revocable(), editor.table(1), editor.without(1)
(1, 2, 0, (0, 1, 2), (2, 0, 1), 2)
>>> editor.act(("revoke", 1)), editor.entries(), editor.states(), editor.revocable(), editor.table(1) is None, editor.without(1)
(2, ((0, True), (0, False), (0, True)), (0, 1, 2), (0, 2), True, 2)
>>> editor.act(("restore", 1)), editor.undo(), editor.state(), editor.records()[-1]
(0, ('restore', 1), 2, (('revoke', 1), 2))
>>> place = (3, 0, ((1, 0, 2), (0, 2, 1)))
>>> replayed(place, (("execute", 0), ("execute", 1))).revocable(), are_right(place, ((("execute", 0), 1), (("execute", 1), 2), (("revoke", 0), 0)))
((), True)
"""


class ExamplesTest(unittest.TestCase):

    def assert_examples(self, text, name):
        # The document says which error is raised, and leaves the wording free.
        text = text.replace("raises TextError", "Traceback (most recent call last):\nTextError: in whatever words")
        test = doctest.DocTestParser().get_doctest(text, {}, name, None, None)
        self.assertGreater(len(test.examples), 2)
        told = []
        runner = doctest.DocTestRunner(verbose=False, optionflags=doctest.IGNORE_EXCEPTION_DETAIL)
        runner.run(test, out=told.append)
        self.assertEqual("".join(told), "")

    def test_agreeing(self):
        self.assert_examples(AGREEING, "agreeing")

    def test_actions(self):
        self.assert_examples(ACTIONS, "actions")

    def test_notes(self):
        self.assert_examples(NOTES, "notes")

    def test_insertions(self):
        self.assert_examples(INSERTIONS, "insertions")

    def test_groups(self):
        self.assert_examples(GROUPS, "groups")

    def test_forgetting(self):
        self.assert_examples(FORGETTING, "forgetting")

    def test_effects_and_extensions(self):
        self.assert_examples(EXTENSIONS, "extensions")

    def test_withdrawing(self):
        self.assert_examples(WITHDRAWING, "withdrawing")

    def test_comparing(self):
        self.assert_examples(COMPARING, "comparing")

    def test_reading_and_writing(self):
        self.assert_examples(WRITING, "writing")
        with self.assertRaises(TextError) as caught:
            read_system("2 start 0; a 1; b 0 0")
        self.assertEqual((caught.exception.column, caught.exception.words), (15, "a state is missing"))

    def test_editors_and_journals(self):
        self.assert_examples(JOURNALS, "journals")

    def test_an_example_that_is_wrong_is_found(self):
        for text in ("1\n", "raises TextError\n"):
            with self.assertRaises(AssertionError):
                self.assert_examples(">>> 1\n1\n>>> 2\n2\n>>> 2\n" + text, "wrong")

    def test_readme(self):
        with open(README, encoding="utf-8") as file:
            # A fence stands where doctest would expect what is printed.
            self.assert_examples(file.read().replace("```", ""), "README.md")


if __name__ == "__main__":
    unittest.main()
