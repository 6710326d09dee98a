"""Points 2 to 8, 124 to 126 and 129, and the interface of undobystate/journals.py."""

import unittest

from cases import ALONE, CARDS, EXAMPLE, LADDER, NO_OPERATIONS, NO_SYSTEMS, NO_TUPLES, PLACE, RING, STOP, WIDEST
from cases import ArgumentCase, entries_told, mixed_systems, operations_of, state_told, why_not_told
from undobystate.editor import Editor
from undobystate.errors import NotPossible
from undobystate.journals import are_right, replayed

SYSTEMS = [EXAMPLE, PLACE, CARDS, LADDER, RING, ALONE, STOP, WIDEST, (8, 3, ()), (1, 0, ((0,),) * 4)]

# 16 entries and 20 operations.
FULL = tuple([("execute", 0)] * 16 + [("revoke", 3), ("restore", 3), ("revoke", 15), ("revoke", 3)])

# In the place of a journal.
NO_JOURNALS = NO_TUPLES + [(operation,) for operation in NO_OPERATIONS] + [
    [("execute", 0)], ("execute", 0), (("execute", 0), None), (None, ("execute", 0)), (("execute", 0), ["execute", 0]),
    (("execute", 0),) * 21, (("revoke", 0),) * 21, FULL + (("execute", 4),), (("execute", 0),) * 100]


def journals_of(system):
    """Return journals of possible operations: all those of at most 3 operations with the entries 0 to 2, and more."""
    some = [one for one in operations_of(system) if one[0] == "execute" or one[1] <= 2]
    journals = level = [()]
    for _ in range(3):
        level = [journal + (one,) for journal in level for one in some
                 if why_not_told(entries_told(journal), one) is None]
        journals = journals + level
    return journals[:80] + ([FULL] if system[2] else [])


def records_told(system, journal):
    """Return the tuple of the records, by the words of the document alone."""
    behind = [entries_told(journal[:many]) for many in range(1, len(journal) + 1)]
    return tuple((operation, state_told(system, entries)) for operation, entries in zip(journal, behind))


def hold(system, records):
    """Tell whether each record holds, one after another."""
    for at, (operation, state) in enumerate(records):
        entries = entries_told([one for one, _ in records[:at]])
        if why_not_told(entries, operation) is not None:
            return False
        if state != state_told(system, entries_told([one for one, _ in records[:at + 1]])):
            return False
    return True


class JournalCase(ArgumentCase):

    def assert_not_possible(self, why, system, journal):
        with self.subTest(system=system, journal=journal):
            with self.assertRaises(NotPossible) as caught:
                replayed(system, journal)
            self.assertEqual(caught.exception.why, why)


class ReplayedTest(JournalCase):

    def test_the_example(self):
        self.assertEqual(replayed(PLACE, (("execute", 0), ("execute", 1))).revocable(), ())

    def test_it_carries_out_the_operations_one_after_another(self):
        for system in SYSTEMS + mixed_systems(20):
            for journal in journals_of(system):
                editor = replayed(system, journal)
                with self.subTest(system=system, journal=journal):
                    self.assertIsInstance(editor, Editor)
                    self.assertEqual(editor.journal(), journal)
                    entries = entries_told(journal)
                    self.assertEqual(editor.entries(), tuple(tuple(entry) for entry in entries))
                    self.assertEqual(editor.state(), state_told(system, entries))
                    self.assertEqual(editor.records(), records_told(system, journal))

    def test_the_empty_journal(self):
        editor = replayed(RING, ())
        self.assertEqual((editor.state(), editor.entries(), editor.journal(), editor.undo()), (0, (), (), None))

    def test_an_editor_again_from_its_journal(self):
        for system in SYSTEMS:
            for journal in journals_of(system):
                one = replayed(system, journal)
                other = replayed(system, one.journal())
                with self.subTest(system=system, journal=journal):
                    self.assertEqual((one.revocable(), one.states()), (other.revocable(), other.states()))
                    self.assertEqual(one.undo(), other.undo())
                    self.assertEqual((one.journal(), one.entries()), (other.journal(), other.entries()))

    def test_each_call_gives_an_editor_of_its_own(self):
        journal = (("execute", 0),)
        one, other = replayed(RING, journal), replayed(RING, journal)
        self.assertEqual(one.act(("execute", 0)), 2)
        self.assertEqual((one.state(), other.state(), replayed(RING, journal).state()), (2, 1, 1))
        self.assertEqual(journal, (("execute", 0),))

    def test_operations_that_are_not_possible(self):
        for why, journal in [("missing", (("revoke", 0),)), ("missing", (("restore", 15),)),
                             ("missing", (("execute", 0), ("revoke", 1), ("revoke", 0))),
                             ("effect", (("execute", 0), ("restore", 0))),
                             ("revoked", (("execute", 0), ("revoke", 0), ("revoke", 0))),
                             ("full", (("execute", 0),) * 17), ("full", (("execute", 0),) * 20),
                             ("effect", FULL[:19] + (("restore", 3),)), ("missing", (("execute", 0), ("revoke", 1)))]:
            self.assert_not_possible(why, RING, journal)

    def test_the_first_one_that_is_not_possible_is_told(self):
        self.assert_not_possible("effect", RING, (("execute", 0), ("restore", 0), ("revoke", 5)))
        self.assert_not_possible("missing", RING, (("execute", 0), ("revoke", 5), ("restore", 0)))

    def test_20_operations_and_21(self):
        self.assertEqual(len(FULL), 20)
        self.assertEqual(replayed(RING, FULL).state(), 2)
        self.assert_bad("journal", replayed, RING, FULL + (("restore", 3),))
        # Whether they are possible or not.
        self.assert_bad("journal", replayed, RING, (("execute", 0),) * 21)

    def test_wrong_arguments_come_before_operations_that_are_not_possible(self):
        self.assert_bad("journal", replayed, RING, (("revoke", 0), ("execute", 1)))
        self.assert_bad("journal", replayed, RING, (("revoke", 0), ("revoke", 16)))
        self.assert_bad("system", replayed, list(RING), (("revoke", 0),))

    def test_an_operation_with_a_command_of_another_system(self):
        for many in range(5):
            system = (1, 0, ((0,),) * many)
            for command in range(many):
                self.assertEqual(replayed(system, (("execute", command),)).state(), 0)
            self.assert_bad("journal", replayed, system, (("execute", many),))


class AreRightTest(JournalCase):

    def test_the_example(self):
        self.assertIs(are_right(PLACE, ((("execute", 0), 1), (("execute", 1), 2), (("revoke", 0), 0))), True)

    def test_the_records_of_an_editor_and_no_others_with_these_operations(self):
        for system in SYSTEMS + mixed_systems(12):
            for journal in journals_of(system):
                records = replayed(system, journal).records()
                with self.subTest(system=system, records=records):
                    self.assertIs(are_right(system, records), True)
                for at, (operation, state) in enumerate(records):
                    for other in range(-1, system[0] + 1):
                        changed = records[:at] + ((operation, other),) + records[at + 1:]
                        with self.subTest(system=system, changed=changed):
                            self.assertIs(are_right(system, changed), other == state)

    def test_with_an_operation_changed(self):
        found = {True: 0, False: 0}
        for system in (PLACE, RING, STOP, EXAMPLE):
            for journal in journals_of(system)[::4]:
                records = records_told(system, journal)
                for at, (_, state) in enumerate(records):
                    for other in operations_of(system):
                        changed = records[:at] + ((other, state),) + records[at + 1:]
                        right = hold(system, changed)
                        found[right] += 1
                        with self.subTest(system=system, changed=changed):
                            self.assertIs(are_right(system, changed), right)
        self.assertGreater(min(found.values()), 30)

    def test_no_records(self):
        for system in SYSTEMS:
            self.assertIs(are_right(system, ()), True)

    def test_a_record_taken_out_or_twice(self):
        records = records_told(RING, (("execute", 0), ("revoke", 0), ("restore", 0)))
        self.assertIs(are_right(RING, records), True)
        self.assertIs(are_right(RING, records[:2]), True)
        self.assertIs(are_right(RING, records[1:]), False)
        self.assertIs(are_right(RING, records[:1] + records[2:]), False)
        self.assertIs(are_right(RING, records + records[-1:]), False)
        self.assertIs(are_right(RING, records[::-1]), False)

    def test_20_records_and_21(self):
        records = records_told(RING, FULL)
        self.assertEqual(len(records), 20)
        self.assertIs(are_right(RING, records), True)
        self.assertIs(are_right(RING, records[:19]), True)
        for operation in (("restore", 3), ("revoke", 0), ("restore", 15)):
            for state in range(3):
                self.assertIs(are_right(RING, records + ((operation, state),)), False)

    def test_17_entries(self):
        records = records_told(RING, (("execute", 0),) * 17)
        self.assertIs(are_right(RING, records[:16]), True)
        self.assertIs(are_right(RING, records), False)

    def test_values_of_other_kinds(self):
        records = records_told(PLACE, (("execute", 0), ("execute", 1), ("revoke", 0)))
        self.assert_refused(lambda value: are_right(PLACE, value), records)
        for value in NO_TUPLES + [(None,), (0,), ((),), (("execute", 0),), ((("execute", 0),),), list(records),
                                  ((("execute", 0), 1, 1),), ([("execute", 0), 1],), ((["execute", 0], 1),),
                                  ((("execute", 0), True),), ((("execute", False), 1),), ((("execute", 0), "1"),),
                                  ((("execute", 0), None),), ((("execute", 0), 3),), ((1, ("execute", 0)),),
                                  ((("execute", 0), 1.0),), (("execute", 0), 1), ((("execute", 0), (1,)),)]:
            with self.subTest(value=value):
                self.assertIs(are_right(PLACE, value), False)
        for operation in NO_OPERATIONS:
            for state in range(3):
                self.assertIs(are_right(PLACE, ((operation, state),)), False)
        # A record behind one that does not hold is of no kind that matters.
        self.assertIs(are_right(PLACE, ((("revoke", 0), 0), None)), False)


class WrongArgumentTest(JournalCase):

    def test_replayed(self):
        self.assert_checked(replayed, (PLACE, (("execute", 1),)), [("system", NO_SYSTEMS), ("journal", NO_JOURNALS)])

    def test_are_right(self):
        self.assert_checked(are_right, (PLACE, ()), [("system", NO_SYSTEMS)])

    def test_an_error_changes_nothing(self):
        editor = replayed(RING, (("execute", 0),))
        for _ in range(2):
            self.assert_not_possible("missing", RING, (("execute", 0), ("revoke", 1)))
            self.assertEqual(replayed(RING, (("execute", 0),)).state(), 1)
        self.assertEqual((editor.state(), editor.journal()), (1, (("execute", 0),)))

    def test_arguments_by_their_names(self):
        self.assertEqual(replayed(system=RING, journal=(("execute", 0),)).state(), 1)
        self.assertIs(are_right(system=RING, records=((("execute", 0), 1),)), True)


if __name__ == "__main__":
    unittest.main()
