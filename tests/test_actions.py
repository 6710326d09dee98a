"""Points 2 to 8 and 20 to 31, and the interface of undobystate/actions.py."""

import itertools
import unittest

from cases import ALONE, CARDS, EXAMPLE, LADDER, NO_NUMBERS, NO_SYSTEMS, PLACE, RING, WIDEST
from cases import ArgumentCase, actions_in, first_refutation, first_to_pairs, longest_to_try, mixed_systems
from cases import pairs_reached, permutation_systems, place_after, regular_systems, seconds_reached, sequences_by_length
from cases import small_systems, states_reached, taken_out
from undobystate.actions import accepts_action, action_evidence, counterparts, is_revocable
from undobystate.actions import passes_check, refutes, told_refutation, told_table

# From 0 the first command goes through all states and then comes back to 1.
SNARE = (8, 0, ((1, 2, 3, 4, 5, 6, 7, 1),))

# Two commands that lead from every state to one.
STOP = (3, 0, ((1, 1, 1), (2, 2, 2)))

SYSTEMS = [EXAMPLE, PLACE, CARDS, LADDER, RING, WIDEST, SNARE, STOP, (1, 0, ((0,),) * 4)]
ALL = SYSTEMS + small_systems() + mixed_systems(60) + permutation_systems(80) + regular_systems()


def all_actions():
    """Yield all actions of the systems, each with its system and the state after it."""
    for system in ALL:
        for state, command, behind in actions_in(system):
            yield system, state, command, behind


class CounterpartsTest(unittest.TestCase):

    def test_the_examples(self):
        self.assertEqual(counterparts(PLACE, 0, 0), ((1, 2), (0, 2), (0, 1)))
        self.assertEqual(counterparts(RING, 0, 0), ((2,), (0,), (1,)))
        self.assertEqual(counterparts(STOP, 0, 0), ((), (0, 1), (2,)))

    def test_states_that_are_not_reached_have_none(self):
        self.assertEqual(counterparts(LADDER, 5, 0), ((), (), (), (), (), (), (5,), (6, 7)))
        self.assertEqual(counterparts(EXAMPLE, 2, 1), ((0, 1, 2), (0, 1, 2), ()))

    def test_many(self):
        self.assertEqual(counterparts(SNARE, 0, 0), ((), (0, 7), (1,), (2,), (3,), (4,), (5,), (6,)))
        every = counterparts((8, 0, ((1, 2, 3, 4, 5, 6, 7, 0), (0, 0, 2, 3, 4, 5, 6, 7))), 0, 0)
        self.assertEqual(every, (tuple(range(8)),) * 8)

    def test_all_actions(self):
        for system, state, command, behind in all_actions():
            with self.subTest(system=system, state=state, command=command):
                self.assertEqual(counterparts(system, state, command), seconds_reached(system, behind, state))


class RevocableTest(unittest.TestCase):

    def test_the_examples(self):
        self.assertTrue(all(is_revocable(CARDS, state, command) is True for state, command, _ in actions_in(CARDS)))
        self.assertIs(is_revocable(PLACE, 0, 0), False)
        self.assertIs(is_revocable(PLACE, 2, 0), True)
        self.assertIs(is_revocable(SNARE, 1, 0), True)
        self.assertIs(is_revocable(SNARE, 0, 0), False)

    def test_all_actions(self):
        told = []
        for system, state, command, behind in all_actions():
            many = max(len(seconds) for seconds in seconds_reached(system, behind, state))
            with self.subTest(system=system, state=state, command=command):
                self.assertIs(is_revocable(system, state, command), many <= 1)
            told.append(many <= 1)
        self.assertGreater(min(told.count(True), told.count(False)), 300)

    def test_an_action_that_leaves_its_state_as_it_is(self):
        for system, state, command, behind in all_actions():
            if behind == state:
                reached = states_reached(system, state)
                with self.subTest(system=system, state=state, command=command):
                    self.assertIs(is_revocable(system, state, command), True)
                    table = tuple(item if item in reached else None for item in range(system[0]))
                    self.assertEqual(told_table(system, state, command), table)

    def test_with_commands_taken_out_it_stays_revocable(self):
        count = 0
        for system, state, command, _ in all_actions():
            if is_revocable(system, state, command):
                for other in range(len(system[2])):
                    if other != command:
                        count += 1
                        with self.subTest(system=system, state=state, command=command, other=other):
                            less = taken_out(system, other)
                            self.assertIs(is_revocable(less, state, command - (other < command)), True)
        self.assertGreater(count, 100)

    def test_two_ways_to_one_present_state_if_it_is_not_revocable(self):
        for system, state, command, behind in all_actions():
            refutation = told_refutation(system, state, command)
            with self.subTest(system=system, state=state, command=command):
                self.assertIs(refutation is None, is_revocable(system, state, command))
                if refutation is not None:
                    one, other = refutation
                    self.assertEqual(place_after(system, behind, one), place_after(system, behind, other))
                    self.assertNotEqual(place_after(system, state, one), place_after(system, state, other))


class ToldTableTest(unittest.TestCase):

    def test_the_examples(self):
        self.assertEqual(told_table(CARDS, 0, 0), (1, 0, 3, 2, 5, 4))
        self.assertEqual(told_table(PLACE, 2, 0), (0, 1, 2))
        self.assertIs(told_table(PLACE, 0, 0), None)

    def test_states_that_are_not_reached_have_none(self):
        self.assertEqual(told_table((5, 0, ((1, 0, 3, 4, 2),)), 0, 0), (1, 0, None, None, None))
        self.assertEqual(told_table((5, 0, ((1, 0, 3, 4, 2),)), 3, 0), (None, None, 4, 2, 3))
        self.assertEqual(told_table(LADDER, 7, 0), (None,) * 7 + (7,))

    def test_all_actions(self):
        for system, state, command, behind in all_actions():
            seconds = seconds_reached(system, behind, state)
            with self.subTest(system=system, state=state, command=command):
                table = told_table(system, state, command)
                if max(len(some) for some in seconds) > 1:
                    self.assertIs(table, None)
                else:
                    self.assertEqual(table, tuple(some[0] if some else None for some in seconds))

    def test_it_tells_the_state_without_the_action_whatever_came_since(self):
        for system in SYSTEMS + regular_systems():
            for state, command, behind in actions_in(system):
                table = told_table(system, state, command)
                if table is not None:
                    for sequence in sequences_of_some_lengths(system):
                        with self.subTest(system=system, state=state, command=command, sequence=sequence):
                            present = place_after(system, behind, sequence)
                            self.assertEqual(table[present], place_after(system, state, sequence))

    def test_it_has_no_state_twice_if_the_commands_are_one_to_one(self):
        for system in permutation_systems(80) + regular_systems():
            reached = states_reached(system, system[1])
            for state, command, _ in actions_in(system):
                table = told_table(system, state, command)
                if state in reached and table is not None:
                    entries = [entry for entry in table if entry is not None]
                    with self.subTest(system=system, state=state, command=command):
                        self.assertEqual(len(entries), len(set(entries)))


def sequences_of_some_lengths(system):
    """Return sequences of up to 3 commands, and long ones of all commands."""
    commands = tuple(range(len(system[2])))
    return list(sequences_by_length(system, 3)) + [commands * 9, commands[::-1] * 7]


class PassesCheckTest(ArgumentCase):

    def assert_passes(self, passes, system, state, command, table):
        with self.subTest(system=system, state=state, command=command, table=table):
            self.assertIs(passes_check(system, state, command, table), passes)
            self.assertIs(accepts_action(system, state, command, ("table", table)), passes)

    def test_the_examples(self):
        self.assert_passes(True, CARDS, 0, 0, (1, 0, 3, 2, 5, 4))
        self.assert_passes(False, CARDS, 0, 0, (1, 0, 3, 2, None, 4))
        self.assert_passes(True, PLACE, 2, 0, (0, 1, 2))

    def test_what_is_told_passes(self):
        for system, state, command, _ in all_actions():
            table = told_table(system, state, command)
            if table is not None:
                self.assert_passes(True, system, state, command, table)

    def test_entries_where_the_told_table_has_none(self):
        two = (4, 0, ((1, 0, 3, 2),))
        self.assertEqual(told_table(two, 0, 0), (1, 0, None, None))
        for table in ((1, 0, 2, 3), (1, 0, 3, 2), (1, 0, 0, 1), (1, 0, 1, 0)):
            self.assert_passes(True, two, 0, 0, table)
        for table in ((1, 0, 2, None), (1, 0, None, 2), (1, 0, 2, 2), (1, 0, 3, 3), (1, 0, 0, 2)):
            self.assert_passes(False, two, 0, 0, table)
        self.assert_passes(True, (3, 0, ((0, 0, 0),)), 0, 0, (0, 2, 1))
        self.assert_passes(False, (3, 0, ((0, 0, 2),)), 0, 0, (0, 2, 1))

    def test_all_tables_of_small_systems(self):
        for system in small_systems() + [EXAMPLE, PLACE, STOP, (4, 1, ((1, 0, 3, 2),)), (4, 1, ((3, 0, 0, 0),))]:
            tables = list(itertools.product([None, *range(system[0])], repeat=system[0]))
            for state, command, behind in actions_in(system):
                right = [table for table in tables if self.is_kept(system, behind, state, table)]
                told = told_table(system, state, command)
                with self.subTest(system=system, state=state, command=command):
                    passed = [table for table in tables if passes_check(system, state, command, table)]
                    self.assertEqual(passed, right)
                    self.assertIs(right == [], told is None)
                    for table in right:
                        shown = [entry if known is not None else None for entry, known in zip(table, told)]
                        self.assertEqual(tuple(shown), told)

    def is_kept(self, system, one, other, table):
        chosen = [state for state in range(system[0]) if table[state] is not None]
        return table[one] == other and all(
            row[state] in chosen and table[row[state]] == row[table[state]] for row in system[2] for state in chosen)

    def test_it_begins_with_the_state_after_and_the_state_before_the_action(self):
        # Each command of the ring keeps all three tables, but only one of them undoes the action.
        for table in ((2, 0, 1), (0, 1, 2), (1, 2, 0)):
            self.assert_passes(table == (2, 0, 1), RING, 0, 0, table)
        self.assert_passes(False, RING, 0, 0, (None,) * 3)
        self.assert_passes(False, (1, 0, ((0,),)), 0, 0, (None,))

    def test_each_entry_changed(self):
        for system in (CARDS, PLACE, RING, WIDEST, LADDER):
            for state, command, _ in actions_in(system):
                table = told_table(system, state, command)
                for at in range(system[0]):
                    for entry in [None, *range(system[0])]:
                        if table is not None and table[at] is not None and entry != table[at]:
                            self.assert_passes(False, system, state, command, table[:at] + (entry,) + table[at + 1:])

    def test_other_values(self):
        for system, state, command, table in (
                (CARDS, 0, 0, (1, 0, 3, 2, 5, 4)), (RING, 1, 0, (2, 0, 1)), (PLACE, 0, 1, (0, 1, 2)),
                ((4, 0, ((1, 0, 3, 2),)), 0, 0, (1, 0, None, None)), (ALONE[:2] + (((0,),),), 0, 0, (0,))):
            self.assert_refused(lambda value, told=(system, state, command): passes_check(*told, value), table)
            for wrong in ((), table[:-1], table + (0,), table + (None,), table + table, (table, table), None):
                self.assert_passes(False, system, state, command, wrong)


class ToldRefutationTest(unittest.TestCase):

    def test_the_examples(self):
        self.assertEqual(told_refutation(PLACE, 0, 0), ((0,), (0, 1)))
        self.assertIs(told_refutation(PLACE, 2, 0), None)
        self.assertIs(told_refutation(CARDS, 0, 0), None)
        self.assertEqual(told_refutation((2, 0, ((1, 1),)), 0, 0), ((), (0,)))

    def test_long_ones(self):
        self.assertEqual(told_refutation(SNARE, 0, 0), ((), (0,) * 7))
        self.assertEqual(told_refutation(LADDER, 0, 0), ((0,) * 6, (0,) * 7))
        self.assertEqual(told_refutation((8, 0, ((1, 2, 3, 4, 5, 6, 7, 5),)), 0, 0), ((0,) * 4, (0,) * 7))

    def test_the_earliest_pair_and_not_the_one_found_last_with_the_same_first_state(self):
        for system in SYSTEMS + mixed_systems(60):
            for state, command, behind in actions_in(system):
                told = told_refutation(system, state, command)
                if told is not None:
                    present = place_after(system, behind, told[1])
                    first = first_to_pairs(system, behind, state, len(told[1]))
                    earlier = [sequence for pair, sequence in first.items() if pair[0] == present]
                    with self.subTest(system=system, state=state, command=command):
                        self.assertEqual(told, tuple(earlier[:2]))

    def test_all_actions_by_trying_all_sequences(self):
        tried = []
        for system in SYSTEMS + small_systems() + mixed_systems(60) + permutation_systems(40):
            for state, command, behind in actions_in(system):
                longest = longest_to_try(system)
                told = told_refutation(system, state, command)
                expected = first_refutation(system, behind, state, longest)
                with self.subTest(system=system, state=state, command=command):
                    if expected is None and told is not None:
                        self.assertGreater(len(told[1]), longest)
                    else:
                        self.assertEqual(told, expected)
                        tried.append(told is None)
        self.assertGreater(tried.count(False), 300)

    def test_the_second_one_comes_behind_the_first_one(self):
        for system, state, command, _ in all_actions():
            told = told_refutation(system, state, command)
            if told is not None:
                with self.subTest(system=system, state=state, command=command):
                    self.assertLess((len(told[0]), told[0]), (len(told[1]), told[1]))


class RefutesTest(ArgumentCase):

    def assert_refutes(self, right, system, state, command, value):
        with self.subTest(system=system, state=state, command=command, value=value):
            self.assertIs(refutes(system, state, command, value), right)
            if isinstance(value, tuple) and len(value) == 2:
                self.assertIs(accepts_action(system, state, command, ("refutation", *value)), right)

    def test_the_examples(self):
        self.assert_refutes(True, PLACE, 0, 0, ((0,), (0, 1)))
        self.assert_refutes(False, PLACE, 0, 0, ((), (1, 1, 0, 1)))

    def test_what_is_told_is_accepted_in_both_orders(self):
        for system, state, command, _ in all_actions():
            told = told_refutation(system, state, command)
            if told is not None:
                self.assert_refutes(True, system, state, command, told)
                self.assert_refutes(True, system, state, command, (told[1], told[0]))
                self.assert_refutes(False, system, state, command, (told[0], told[0]))
                self.assert_refutes(False, system, state, command, (told[1], told[1]))

    def test_all_pairs_of_short_sequences(self):
        for system in small_systems() + [EXAMPLE, PLACE, STOP, RING, CARDS]:
            sequences = list(sequences_by_length(system, 2))
            for state, command, behind in actions_in(system):
                for one, other in itertools.product(sequences, repeat=2):
                    right = (place_after(system, behind, one) == place_after(system, behind, other)
                             and place_after(system, state, one) != place_after(system, state, other))
                    self.assert_refutes(right, system, state, command, (one, other))

    def test_from_the_state_after_to_the_same_and_from_the_state_before_to_different_ones(self):
        # (0,) and (1,) lead from the state before, 0, to the same state, from the state after, 1, to different ones.
        system = (4, 0, ((1, 2, 2, 2), (1, 3, 2, 3)))
        self.assert_refutes(False, system, 0, 0, ((0,), (1,)))
        self.assert_refutes(True, system, 0, 0, ((0,), (0, 1)))
        self.assert_refutes(True, system, 0, 0, ((0,), (0, 0)))

    def test_64_commands_and_no_more(self):
        for length in (0, 1, 16, 17, 63, 64):
            self.assert_refutes(True, (2, 0, ((1, 1), (0, 1))), 0, 0, ((1,) * length, (0,) * 64))
            self.assert_refutes(True, (2, 0, ((1, 1), (0, 1))), 0, 0, ((0,) * 64, (1,) * length))
        for length in (65, 66, 100, 1000):
            self.assert_refutes(False, (2, 0, ((1, 1), (0, 1))), 0, 0, ((1,) * length, (0,)))
            self.assert_refutes(False, (2, 0, ((1, 1), (0, 1))), 0, 0, ((0,), (1,) * length))
            self.assert_refutes(False, (2, 0, ((1, 1), (0, 1))), 0, 0, ((), (0,) * length))
            self.assert_refutes(False, (2, 0, ((1, 1), (0, 1))), 0, 0, ((0,) * length, ()))

    def test_no_revocable_action_has_one(self):
        for system in regular_systems():
            sequences = sequences_of_some_lengths(system)[:8]
            reached = states_reached(system, system[1])
            for state, command, _ in actions_in(system):
                if state in reached:
                    for value in itertools.product(sequences, repeat=2):
                        self.assert_refutes(False, system, state, command, value)

    def test_other_values(self):
        system = (2, 0, ((1, 1), (0, 1)))
        values = [((PLACE, 0, 0), ((0,), (0, 1))), ((system, 0, 0), ((1, 1), (1, 0))), ((system, 0, 0), ((), (0,)))]
        for told, value in values:
            self.assert_refused(lambda other, told=told: refutes(*told, other), value)
            for wrong in ((), value[:1], value[1:], value + ((),), value + value, (value,), (*value, None), value[0]):
                self.assert_refutes(False, *told, wrong)
        for command in (2, 3, 4, -1, True, None):
            self.assert_refutes(False, system, 0, 0, ((), (0, command)))
            self.assert_refutes(False, system, 0, 0, ((command,), (0,)))


class EvidenceTest(ArgumentCase):

    def test_the_examples(self):
        self.assertEqual(action_evidence(PLACE, 0, 0), ("refutation", (0,), (0, 1)))
        self.assertEqual(action_evidence(CARDS, 0, 0), ("table", (1, 0, 3, 2, 5, 4)))
        self.assertIs(accepts_action(CARDS, 0, 0, ("table", (1, 0, 3, 2, 5, 4))), True)
        self.assertIs(accepts_action(PLACE, 0, 0, ("refutation", (0,), (0, 1))), True)

    def test_what_is_told_is_accepted(self):
        for system, state, command, _ in all_actions():
            told = action_evidence(system, state, command)
            with self.subTest(system=system, state=state, command=command):
                self.assertIs(accepts_action(system, state, command, told), True)
                if is_revocable(system, state, command):
                    self.assertEqual(told, ("table", told_table(system, state, command)))
                else:
                    self.assertEqual(told, ("refutation", *told_refutation(system, state, command)))

    def test_evidence_of_exactly_one_of_the_two_words(self):
        for system in small_systems() + [EXAMPLE, PLACE, STOP]:
            sequences = list(sequences_by_length(system, 3))
            values = [("table", some) for some in itertools.product([None, *range(system[0])], repeat=system[0])]
            values += [("refutation", *some) for some in itertools.product(sequences, repeat=2)]
            for state, command, _ in actions_in(system):
                with self.subTest(system=system, state=state, command=command):
                    words = {value[0] for value in values if accepts_action(system, state, command, value)}
                    self.assertEqual(words, {"table" if is_revocable(system, state, command) else "refutation"})

    def test_other_values(self):
        for told, value in (((RING, 0, 0), ("table", (2, 0, 1))), ((PLACE, 0, 0), ("refutation", (0,), (0, 1)))):
            self.assert_refused(lambda other, told=told: accepts_action(*told, other), value)
            word, *shown = value
            for wrong in [(), (word,), tuple(shown), (*shown, word), (word, *shown, ()), (word, tuple(shown)),
                          (word, *shown, *shown), (word, word, *shown), ("tables", *shown), ("", *shown), (0, *shown)]:
                with self.subTest(wrong=wrong):
                    self.assertIs(accepts_action(*told, wrong), False)
        self.assertIs(accepts_action(RING, 0, 0, ("refutation", (2, 0, 1))), False)
        self.assertIs(accepts_action(RING, 0, 0, ("refutation", (0,), (0, 0, 0, 0))), False)
        self.assertIs(accepts_action(PLACE, 0, 0, ("table", (0,), (0, 1))), False)
        self.assertIs(accepts_action(PLACE, 0, 0, ("table", ((0,), (0, 1)))), False)
        self.assertIs(accepts_action(PLACE, 0, 0, ("refutation", ((0,), (0, 1)))), False)


class WrongArgumentTest(ArgumentCase):

    WRONG = [("system", NO_SYSTEMS), ("state", NO_NUMBERS + [3, 8]), ("command", NO_NUMBERS + [2, 4])]

    def test_those_that_tell(self):
        for function in (counterparts, is_revocable, told_table, told_refutation, action_evidence):
            self.assert_checked(function, (PLACE, 0, 0), self.WRONG)

    def test_those_that_judge(self):
        values = [(0, 1, 2), ((0,), (0, 1)), ("table", (0, 1, 2)), ("refutation", (0,), (0, 1)), None]
        for function, value in itertools.product((passes_check, refutes, accepts_action), values):
            self.assert_checked(function, (PLACE, 0, 0, value), self.WRONG)

    def test_without_commands_there_is_no_action(self):
        for function in (counterparts, is_revocable, told_table, told_refutation, action_evidence):
            self.assert_bad("command", function, ALONE, 0, 0)
            self.assert_bad("state", function, ALONE, 1, 0)
        for function in (passes_check, refutes, accepts_action):
            self.assert_bad("command", function, ALONE, 0, 0, (0,))

    def test_the_state_need_not_be_reachable(self):
        self.assertIs(is_revocable(EXAMPLE, 2, 0), True)
        self.assertIs(is_revocable(EXAMPLE, 2, 1), False)
        self.assertIs(passes_check(EXAMPLE, 2, 0, (0, 1, 2)), True)
        self.assertEqual(action_evidence((2, 0, ((0, 1),)), 1, 0), ("table", (None, 1)))


class SameCallTest(unittest.TestCase):

    def told(self, system):
        return [counterparts(system, 0, 0), is_revocable(system, 0, 0), told_table(system, 0, 0),
                told_refutation(system, 0, 0), action_evidence(system, 0, 0),
                passes_check(system, 0, 0, (2, 0, 1)), refutes(system, 0, 0, ((0,), (0, 0)))]

    def test_the_same_call_twice(self):
        systems = (EXAMPLE, PLACE, CARDS, WIDEST, SNARE)
        first = [self.told(system) for system in systems]
        self.assertEqual([self.told(system) for system in systems], first)

    def test_kinds_of_values(self):
        told = [counterparts(PLACE, 0, 0), told_table(PLACE, 2, 0), action_evidence(PLACE, 0, 0)]
        told += [told_refutation(PLACE, 0, 0), *counterparts(EXAMPLE, 2, 1), *told_refutation(PLACE, 0, 0)]
        self.assertEqual([type(value) for value in told], [tuple] * len(told))

    def test_arguments_are_not_modified(self):
        table = [2, 0, 1]
        value = ["table", table]
        self.assertIs(passes_check(RING, 0, 0, table), False)
        self.assertIs(accepts_action(RING, 0, 0, value), False)
        self.assertIs(accepts_action(RING, 0, 0, ("table", table)), False)
        self.assertEqual((table, value), ([2, 0, 1], ["table", [2, 0, 1]]))

    def test_arguments_by_their_names(self):
        action = {"system": RING, "state": 0, "command": 0}
        self.assertEqual((counterparts(**action), told_table(**action)), (((2,), (0,), (1,)), (2, 0, 1)))
        self.assertEqual((is_revocable(**action), told_refutation(**action)), (True, None))
        self.assertEqual(action_evidence(**action), ("table", (2, 0, 1)))
        self.assertIs(passes_check(value=(2, 0, 1), **action), True)
        self.assertIs(accepts_action(value=("table", (2, 0, 1)), **action), True)
        self.assertIs(refutes(value=((), ()), **action), False)


class PairsTest(unittest.TestCase):

    def test_what_comes_behind_a_pair_comes_of_it(self):
        # The tests above go by the pairs that are reached; here these are compared with sequences.
        for system in small_systems() + mixed_systems(10):
            for state, _, behind in actions_in(system):
                tried = set(first_to_pairs(system, behind, state, min(5, longest_to_try(system))))
                with self.subTest(system=system, state=state):
                    self.assertTrue(tried <= pairs_reached(system, behind, state))


if __name__ == "__main__":
    unittest.main()
