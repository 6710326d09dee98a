"""Points 2 to 8, 119 to 124 and 126 to 130, and the class of undobystate/editor.py."""

import unittest

from cases import ALONE, CARDS, EXAMPLE, LADDER, NO_NUMBERS, NO_OPERATIONS, NO_SYSTEMS, PLACE, RING, STOP, WIDEST
from cases import ArgumentCase, chosen_in, entries_told, keeps, mixed_systems, operations_of, pairs_reached
from cases import permutation_systems, place_after, regular_systems, seconds_reached, sequences_by_length, state_told
from cases import states_reached, why_not_told
from undobystate.actions import told_table
from undobystate.editor import Editor
from undobystate.errors import NotPossible, TooLarge

SYSTEMS = [EXAMPLE, PLACE, CARDS, LADDER, RING, ALONE, STOP, WIDEST, (8, 3, ()), (1, 0, ((0,),) * 4),
           (2, 1, ((1, 0),)), (4, 2, ((1, 2, 3, 0), (1, 0, 2, 3)))]
ALL = SYSTEMS + mixed_systems(40) + permutation_systems(40)

# In the place of the number of an entry.
NO_ENTRIES = NO_NUMBERS + [16, 17, 100, 10 ** 30, 0.0, {}, None, "entry", (1, 2)]


def told(editor):
    """Return all that the editor tells, beside what changes it."""
    beside = [(editor.without(entry), editor.table(entry)) for entry in range(len(editor.entries()))]
    return [editor.state(), editor.entries(), editor.states(), editor.journal(), editor.revocable(), beside,
            editor.records()]


def carried_out(system, journal):
    """Return an editor that has carried out the operations."""
    editor = Editor(system)
    for operation in journal:
        editor.act(operation)
    return editor


def drawn(number):
    """Yield numbers without an end, the same ones each time."""
    while True:
        number = (number * 1103515245 + 12345) % 2 ** 31
        yield number >> 12


def possible_journals(system, many, number):
    """Return so many journals with 0 to 20 possible operations."""
    numbers = drawn(number)
    journals = []
    for _ in range(many):
        journal = []
        for _ in range(next(numbers) % 21):
            entries = entries_told(journal)
            some = [one for one in operations_of(system) if why_not_told(entries, one) is None]
            # Else there would be hardly any entry.
            commands = [one for one in some if one[0] == "execute"]
            if commands and next(numbers) % 2:
                some = commands
            if some:
                journal.append(some[next(numbers) % len(some)])
        journals.append(tuple(journal))
    return journals


def table_by_words(system, entries, entry):
    """Return the table of the entry, or None if it is not revocable now, by the words of point 121 alone."""
    if not entries[entry][1]:
        return None
    others = [(command, in_effect and at != entry) for at, (command, in_effect) in enumerate(entries)]
    beside = seconds_reached(system, state_told(system, entries), state_told(system, others))
    if max(len(seconds) for seconds in beside) > 1:
        return None
    return tuple(seconds[0] if seconds else None for seconds in beside)


class EditorCase(ArgumentCase):

    def assert_not_possible(self, why, method, *arguments):
        with self.subTest(why=why, arguments=arguments):
            with self.assertRaises(NotPossible) as caught:
                method(*arguments)
            self.assertEqual(caught.exception.why, why)

    def assert_full_journal(self, editor, operation):
        with self.subTest(operation=operation):
            with self.assertRaises(TooLarge) as caught:
                editor.act(operation)
            self.assertEqual(caught.exception.what, "operations")

    def assert_tells(self, editor, system, journal):
        """Assert that the editor tells what the words of the document say of the journal."""
        entries = entries_told(journal)
        states = [system[1]]
        for command, in_effect in entries:
            if in_effect:
                states.append(system[2][command][states[-1]])
        with self.subTest(system=system, journal=journal):
            self.assertEqual(editor.journal(), tuple(journal))
            self.assertEqual(editor.entries(), tuple(tuple(entry) for entry in entries))
            self.assertEqual(editor.state(), states[-1])
            self.assertEqual(editor.states(), tuple(states))
            for entry in range(len(entries)):
                others = [(command, in_effect and at != entry) for at, (command, in_effect) in enumerate(entries)]
                self.assertEqual(editor.without(entry), state_told(system, others))
                self.assertEqual(editor.table(entry), table_by_words(system, entries, entry))
            now = [entry for entry in range(len(entries)) if table_by_words(system, entries, entry) is not None]
            self.assertEqual(editor.revocable(), tuple(now))
            beginnings = [state_told(system, entries_told(journal[:many])) for many in range(1, len(journal) + 1)]
            self.assertEqual(editor.records(), tuple(zip(journal, beginnings)))


class NewEditorTest(EditorCase):

    def test_there_are_no_entries(self):
        for system in ALL:
            editor = Editor(system)
            with self.subTest(system=system):
                self.assertEqual(told(editor), [system[1], (), (system[1],), (), (), [], ()])
                self.assertIs(editor.undo(), None)
                self.assertEqual(editor.state(), system[1])

    def test_wrong_systems(self):
        self.assert_checked(Editor, (PLACE,), [("system", NO_SYSTEMS)])

    def test_the_argument_by_its_name(self):
        self.assertEqual(Editor(system=RING).state(), 0)

    def test_two_editors_of_one_system_know_nothing_of_each_other(self):
        one, other = Editor(RING), Editor(RING)
        one.act(("execute", 0))
        self.assertEqual((one.state(), other.state(), other.entries()), (1, 0, ()))


class ActTest(EditorCase):

    def test_the_examples(self):
        editor = Editor(RING)
        self.assertEqual([editor.act(("execute", 0)) for _ in range(3)], [1, 2, 0])
        self.assertEqual((editor.revocable(), editor.table(1), editor.without(1)), ((0, 1, 2), (2, 0, 1), 2))
        self.assertEqual(editor.act(("revoke", 1)), 2)
        self.assertEqual((editor.entries(), editor.states()), (((0, True), (0, False), (0, True)), (0, 1, 2)))
        self.assertEqual((editor.revocable(), editor.table(1) is None, editor.without(1)), ((0, 2), True, 2))
        self.assertEqual((editor.act(("restore", 1)), editor.undo(), editor.state()), (0, ("restore", 1), 2))
        self.assertEqual(editor.records()[-1], (("revoke", 1), 2))

    def test_it_returns_the_state_behind(self):
        for system in ALL:
            for journal in possible_journals(system, 3, 5):
                editor = Editor(system)
                for many, operation in enumerate(journal, 1):
                    with self.subTest(system=system, journal=journal[:many]):
                        state = editor.act(operation)
                        self.assertEqual(state, state_told(system, entries_told(journal[:many])))
                        self.assertEqual(state, editor.state())

    def test_all_that_it_tells(self):
        for system in ALL:
            for journal in possible_journals(system, 4, 7):
                self.assert_tells(carried_out(system, journal), system, journal)

    def test_all_that_it_tells_behind_each_operation(self):
        for system in SYSTEMS:
            for journal in possible_journals(system, 2, 11):
                editor = Editor(system)
                for many, operation in enumerate(journal, 1):
                    editor.act(operation)
                    self.assert_tells(editor, system, journal[:many])

    def test_each_operation_that_is_not_possible(self):
        whys = set()
        for system in SYSTEMS:
            full = [(("execute", 0),) * 16] if system[2] else []
            for journal in possible_journals(system, 6, 13) + full:
                editor = carried_out(system, journal)
                before = told(editor)
                entries = entries_told(journal)
                for operation in operations_of(system):
                    why = why_not_told(entries, operation)
                    if why is not None:
                        whys.add((operation[0], why))
                        self.assert_not_possible(why, editor.act, operation)
                self.assertEqual(told(editor), before)
        self.assertEqual(whys, {("execute", "full"), ("revoke", "missing"), ("revoke", "revoked"),
                                ("restore", "missing"), ("restore", "effect")})

    def test_revoking_and_restoring(self):
        editor = carried_out(RING, [("execute", 0)] * 2)
        self.assert_not_possible("effect", editor.act, ("restore", 0))
        self.assert_not_possible("missing", editor.act, ("restore", 2))
        self.assert_not_possible("missing", editor.act, ("revoke", 2))
        self.assert_not_possible("missing", editor.act, ("revoke", 15))
        self.assertEqual(editor.act(("revoke", 1)), 1)
        self.assert_not_possible("revoked", editor.act, ("revoke", 1))
        self.assertEqual(editor.act(("revoke", 0)), 0)
        self.assertEqual(editor.act(("restore", 1)), 1)
        self.assert_not_possible("effect", editor.act, ("restore", 1))
        self.assertEqual(editor.entries(), ((0, False), (0, True)))
        self.assertEqual(editor.act(("execute", 0)), 2)
        self.assertEqual(editor.entries(), ((0, False), (0, True), (0, True)))

    def test_commands_in_effect_are_done_in_the_sequence_of_the_entries(self):
        editor = carried_out(PLACE, [("execute", 0), ("execute", 1), ("revoke", 0), ("execute", 0), ("restore", 0)])
        self.assertEqual((editor.states(), editor.state()), ((0, 1, 2, 2), 2))
        self.assertEqual(editor.entries(), ((0, True), (1, True), (0, True)))

    def test_16_entries_and_a_seventeenth(self):
        editor = carried_out(RING, [("execute", 0)] * 15)
        self.assertEqual(editor.act(("execute", 0)), 1)
        self.assertEqual(len(editor.entries()), 16)
        self.assert_not_possible("full", editor.act, ("execute", 0))
        # A revoked entry is one still.
        self.assertEqual(editor.act(("revoke", 15)), 0)
        self.assert_not_possible("full", editor.act, ("execute", 0))
        self.assertEqual(editor.act(("restore", 15)), 1)
        self.assertEqual(editor.states(), (0, 1, 2) * 5 + (0, 1))
        editor.undo()
        editor.undo()
        self.assertEqual(editor.undo(), ("execute", 0))
        self.assertEqual(editor.act(("execute", 0)), 1)

    def test_20_operations_and_a_twenty_first(self):
        journal = [("execute", 0)] * 4 + [("revoke", 2), ("restore", 2)] * 7
        editor = carried_out(RING, journal)
        self.assertEqual(editor.act(("revoke", 3)), 0)
        self.assertEqual(editor.act(("execute", 0)), 1)
        before = told(editor)
        self.assertEqual(len(editor.journal()), 20)
        for operation in (("execute", 0), ("revoke", 0), ("revoke", 4), ("restore", 3)):
            self.assert_full_journal(editor, operation)
        # What is not possible is told first, and what is no operation ahead of it.
        self.assert_not_possible("revoked", editor.act, ("revoke", 3))
        self.assert_not_possible("missing", editor.act, ("revoke", 5))
        self.assert_not_possible("missing", editor.act, ("restore", 15))
        self.assert_not_possible("effect", editor.act, ("restore", 0))
        self.assert_bad("operation", editor.act, ("execute", 1))
        self.assertEqual(told(editor), before)
        self.assertEqual(editor.undo(), ("execute", 0))
        self.assertEqual(editor.act(("restore", 3)), 1)
        self.assert_full_journal(editor, ("revoke", 3))

    def test_full_entries_in_a_full_journal(self):
        editor = carried_out(RING, [("execute", 0)] * 16 + [("revoke", 0), ("restore", 0)] * 2)
        self.assert_not_possible("full", editor.act, ("execute", 0))
        self.assert_full_journal(editor, ("revoke", 0))

    def test_what_is_no_operation(self):
        for system in (RING, PLACE, WIDEST):
            editor = Editor(system)
            for operation in NO_OPERATIONS:
                self.assert_bad("operation", editor.act, operation)
            editor.act(("execute", 0))
            before = told(editor)
            for operation in NO_OPERATIONS + [("execute", len(system[2]))]:
                self.assert_bad("operation", editor.act, operation)
            self.assertEqual(told(editor), before)
        self.assert_bad("operation", Editor(ALONE).act, ("execute", 0))
        self.assert_not_possible("missing", Editor(ALONE).act, ("revoke", 0))

    def test_arguments_by_their_names(self):
        editor = Editor(RING)
        self.assertEqual(editor.act(operation=("execute", 0)), 1)
        self.assertEqual((editor.without(entry=0), editor.table(entry=0)), (0, (2, 0, 1)))


class WithoutTest(EditorCase):

    def test_it_is_the_state_if_the_entry_were_revoked(self):
        for system in ALL:
            for journal in possible_journals(system, 3, 17):
                editor = carried_out(system, journal[:19])
                for entry, (_, in_effect) in enumerate(editor.entries()):
                    with self.subTest(system=system, journal=journal, entry=entry):
                        right = editor.without(entry)
                        if in_effect:
                            self.assertEqual(editor.act(("revoke", entry)), right)
                            editor.undo()
                        else:
                            self.assertEqual(editor.state(), right)

    def test_wrong_entries(self):
        editor = carried_out(RING, [("execute", 0)] * 2)
        before = told(editor)
        for method in (editor.without, editor.table):
            for entry in NO_ENTRIES:
                self.assert_bad("entry", method, entry)
            for entry in range(2, 16):
                self.assert_not_possible("missing", method, entry)
        self.assertEqual(told(editor), before)
        for method in (Editor(ALONE).without, Editor(ALONE).table):
            self.assert_not_possible("missing", method, 0)
            self.assert_bad("entry", method, 16)

    def test_the_last_of_16_entries(self):
        editor = carried_out(RING, [("execute", 0)] * 16)
        self.assertEqual((editor.without(15), editor.table(15)), (0, (2, 0, 1)))


class RevocableTest(EditorCase):

    def test_of_a_revoked_entry_there_is_no_table(self):
        editor = carried_out(RING, [("execute", 0), ("execute", 0), ("revoke", 0)])
        self.assertEqual((editor.revocable(), editor.table(0), editor.table(1)), ((1,), None, (2, 0, 1)))
        editor.act(("restore", 0))
        self.assertEqual((editor.revocable(), editor.table(0)), ((0, 1), (2, 0, 1)))

    def test_an_action_that_is_not_revocable_can_be_revocable_now(self):
        # Only in the last state, from which nothing else is reached.
        self.assertFalse(keeps(LADDER, 0, 0))
        editor = carried_out(LADDER, [("execute", 0)])
        self.assertEqual(editor.revocable(), ())
        for _ in range(7):
            editor.act(("execute", 0))
        # Without one of the eight commands the state is the same.
        self.assertEqual((editor.state(), editor.revocable()), (7, tuple(range(8))))
        self.assertEqual(editor.table(3), (None,) * 7 + (7,))

    def test_while_commands_are_executed_it_stays_so_and_its_table_too(self):
        many = 0
        for system in ALL:
            for journal in possible_journals(system, 3, 19):
                for sequence in list(sequences_by_length(system, 3))[:12]:
                    editor = carried_out(system, journal[:10])
                    before = {entry: editor.table(entry) for entry in editor.revocable()}
                    for command in sequence:
                        editor.act(("execute", command))
                    reached = states_reached(system, editor.state())
                    for entry, table in before.items():
                        many += 1
                        with self.subTest(system=system, journal=journal, sequence=sequence, entry=entry):
                            self.assertIn(entry, editor.revocable())
                            self.assertEqual(editor.without(entry), table[editor.state()])
                            right = tuple(item if at in reached else None for at, item in enumerate(table))
                            self.assertEqual(editor.table(entry), right)
        self.assertGreater(many, 500)

    def test_if_the_action_is_revocable_the_entry_is(self):
        found = {True: 0, False: 0}
        for system in ALL:
            for sequence in list(sequences_by_length(system, 4))[::5]:
                editor = carried_out(system, [("execute", command) for command in sequence])
                for entry, command in enumerate(sequence):
                    state = place_after(system, system[1], sequence[:entry])
                    found[keeps(system, state, command)] += 1
                    if keeps(system, state, command):
                        with self.subTest(system=system, sequence=sequence, entry=entry):
                            self.assertIn(entry, editor.revocable())
                            if entry == len(sequence) - 1:
                                self.assertEqual(editor.table(entry), told_table(system, state, command))
        self.assertGreater(min(found.values()), 100)

    def test_in_a_regular_system_every_entry_that_is_in_effect_is(self):
        for system in regular_systems():
            for journal in possible_journals(system, 3, 23):
                editor = carried_out(system, journal)
                right = tuple(at for at, (_, in_effect) in enumerate(editor.entries()) if in_effect)
                with self.subTest(system=system, journal=journal):
                    self.assertEqual(editor.revocable(), right)
                    for entry in right:
                        items = [k for k, item in enumerate(editor.table(entry)) if item is not None]
                        self.assertEqual(items, chosen_in(system))

    def test_no_table_tells_two_states_apart(self):
        editor = carried_out(PLACE, [("execute", 0), ("execute", 1)])
        self.assertEqual((editor.state(), editor.without(0), editor.without(1)), (2, 0, 1))
        self.assertEqual((editor.revocable(), editor.table(0), editor.table(1)), ((), None, None))
        self.assertGreater(len(pairs_reached(PLACE, 2, 0)), 3)
        # The command 1, done in the place 0, changes nothing.
        editor = carried_out(PLACE, [("execute", 1), ("execute", 0)])
        self.assertEqual((editor.revocable(), editor.table(0)), ((0,), (0, 1, 2)))


class UndoTest(EditorCase):

    def test_it_takes_the_last_operation_back(self):
        for system in ALL:
            for journal in possible_journals(system, 3, 29):
                editor = Editor(system)
                before = []
                for operation in journal:
                    before.append(told(editor))
                    editor.act(operation)
                for operation in journal[::-1]:
                    with self.subTest(system=system, journal=journal, operation=operation):
                        self.assertEqual(editor.undo(), operation)
                        self.assertEqual(told(editor), before.pop())
                self.assertIs(editor.undo(), None)
                self.assertIs(editor.undo(), None)
                self.assertEqual(told(editor), told(Editor(system)))

    def test_undoing_and_then_another_operation(self):
        editor = carried_out(PLACE, [("execute", 0), ("execute", 1), ("revoke", 0)])
        self.assertEqual((editor.undo(), editor.undo()), (("revoke", 0), ("execute", 1)))
        self.assertEqual(editor.act(("execute", 0)), 0)
        self.assert_tells(editor, PLACE, (("execute", 0), ("execute", 0)))

    def test_what_an_editor_tells_depends_on_its_system_and_its_journal_alone(self):
        for system in SYSTEMS:
            numbers = drawn(31)
            editor = Editor(system)
            journal = []
            for _ in range(60):
                some = [one for one in operations_of(system) if why_not_told(entries_told(journal), one) is None]
                if len(journal) == 20 or not some or next(numbers) % 3 == 0:
                    self.assertEqual(editor.undo(), journal.pop() if journal else None)
                else:
                    journal.append(some[next(numbers) % len(some)])
                    editor.act(journal[-1])
                self.assertEqual(told(editor), told(carried_out(system, journal)))

    def test_revoking_and_restoring_at_once_changes_nothing_but_the_journal(self):
        for system in ALL:
            for journal in possible_journals(system, 3, 37):
                editor = carried_out(system, journal[:18])
                before = told(editor)
                for entry, (_, in_effect) in enumerate(editor.entries()):
                    if in_effect:
                        editor.act(("revoke", entry))
                        editor.act(("restore", entry))
                        with self.subTest(system=system, journal=journal, entry=entry):
                            self.assertEqual(told(editor)[:3] + told(editor)[4:6], before[:3] + before[4:6])
                            added = (("revoke", entry), ("restore", entry))
                            self.assertEqual(editor.journal(), journal[:18] + added)
                        editor.undo()
                        editor.undo()


class TwinTest(EditorCase):

    def test_it_has_the_same_system_and_journal(self):
        for system in ALL:
            for journal in possible_journals(system, 2, 41):
                editor = carried_out(system, journal)
                before = told(editor)
                twin = editor.twin()
                with self.subTest(system=system, journal=journal):
                    self.assertIsInstance(twin, Editor)
                    self.assertIsNot(twin, editor)
                    self.assertEqual((told(twin), told(editor)), (before, before))

    def test_what_is_done_to_the_one_does_not_change_the_other(self):
        editor = carried_out(PLACE, [("execute", 0), ("execute", 1)])
        before = told(editor)
        twin = editor.twin()
        for operation in (("execute", 0), ("revoke", 0), ("restore", 0), ("revoke", 1)):
            twin.act(operation)
            self.assertEqual(told(editor), before)
        for _ in range(6):
            twin.undo()
            self.assertEqual(told(editor), before)
        self.assertEqual((twin.journal(), editor.journal()), ((), (("execute", 0), ("execute", 1))))
        other = editor.twin()
        editor.undo()
        editor.act(("revoke", 0))
        self.assertEqual(told(other), before)
        self.assertEqual(told(twin), told(Editor(PLACE)))

    def test_of_a_full_journal(self):
        journal = tuple([("execute", 0)] * 16 + [("revoke", 0), ("restore", 0)] * 2)
        twin = carried_out(RING, journal).twin()
        self.assertEqual(twin.journal(), journal)
        self.assert_full_journal(twin, ("revoke", 0))

    def test_a_twin_of_a_twin(self):
        editor = carried_out(RING, [("execute", 0)])
        twin = editor.twin().twin()
        twin.act(("execute", 0))
        self.assertEqual((editor.state(), twin.state()), (1, 2))


class KindsTest(EditorCase):

    def test_kinds_of_values(self):
        editor = carried_out(PLACE, [("execute", 1), ("execute", 0), ("revoke", 1)])
        tuples = [editor.entries(), *editor.entries(), editor.states(), editor.journal(), *editor.journal(),
                  editor.revocable(), editor.table(0), editor.records(), *editor.records(), editor.undo()]
        self.assertEqual({type(value) for value in tuples}, {tuple})
        self.assertEqual({type(value) for value in (editor.state(), editor.without(0), *editor.states())}, {int})
        self.assertEqual({type(in_effect) for _, in_effect in editor.entries()}, {bool})

    def test_the_same_call_twice(self):
        editor = carried_out(EXAMPLE, [("execute", 0), ("execute", 1), ("revoke", 0)])
        self.assertEqual(told(editor), told(editor))


if __name__ == "__main__":
    unittest.main()
