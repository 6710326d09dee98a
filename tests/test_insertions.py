"""Points 2 to 8 and 42 to 51, and the interface of undobystate/insertions.py."""

import itertools
import unittest

from cases import ALONE, CARDS, EXAMPLE, LADDER, NO_NUMBERS, NO_SYSTEMS, PLACE, RING, WIDEST
from cases import ArgumentCase, actions_in, first_refutation, longest_to_try, mixed_systems, permutation_systems
from cases import place_after, regular_systems, seconds_reached, sequences_by_length, small_systems, states_reached
from cases import taken_out
from undobystate.actions import is_revocable, told_table
from undobystate.insertions import accepts_insertion, can_exchange, insertion_refutation, insertion_table
from undobystate.insertions import is_insertable, refutes_insertion

STOP = (3, 0, ((1, 1, 1), (2, 2, 2)))

# The command 0 goes through all states and then comes back to 1.
SNARE = (8, 0, ((1, 2, 3, 4, 5, 6, 7, 1),))

SYSTEMS = [EXAMPLE, PLACE, CARDS, LADDER, RING, WIDEST, SNARE, STOP, (1, 0, ((0,),) * 4)]
ALL = SYSTEMS + small_systems() + mixed_systems(60) + permutation_systems(80) + regular_systems()


def all_actions():
    """Yield all actions of the systems, each with its system and the state after it."""
    for system in ALL:
        for state, command, behind in actions_in(system):
            yield system, state, command, behind


class InsertableTest(unittest.TestCase):

    def test_the_examples(self):
        self.assertIs(is_insertable(PLACE, 0, 0), False)
        self.assertIs(is_insertable(PLACE, 0, 1), True)
        self.assertTrue(all(is_insertable(CARDS, state, command) is True for state, command, _ in actions_in(CARDS)))

    def test_it_is_not_the_same_as_revocable(self):
        self.assertEqual((is_insertable(STOP, 0, 0), is_revocable(STOP, 0, 0)), (True, False))
        self.assertEqual((is_insertable(SNARE, 0, 0), is_revocable(SNARE, 0, 0)), (True, False))
        # From 0 both commands lead to 1, from 1 to 2 and 3.
        system = (4, 0, ((1, 2, 2, 3), (1, 3, 2, 3)))
        self.assertEqual((is_insertable(system, 0, 0), is_revocable(system, 0, 0)), (False, False))
        self.assertEqual((is_insertable(system, 1, 0), is_revocable(system, 1, 0)), (True, False))

    def test_all_actions(self):
        told = []
        for system, state, command, behind in all_actions():
            many = max(len(seconds) for seconds in seconds_reached(system, state, behind))
            with self.subTest(system=system, state=state, command=command):
                self.assertIs(is_insertable(system, state, command), many <= 1)
            told.append(many <= 1)
        self.assertGreater(min(told.count(True), told.count(False)), 200)

    def test_an_action_that_leaves_its_state_as_it_is(self):
        for system, state, command, behind in all_actions():
            if behind == state:
                reached = states_reached(system, state)
                with self.subTest(system=system, state=state, command=command):
                    self.assertIs(is_insertable(system, state, command), True)
                    table = tuple(item if item in reached else None for item in range(system[0]))
                    self.assertEqual(insertion_table(system, state, command), table)

    def test_with_commands_taken_away_it_stays_insertable(self):
        count = 0
        for system, state, command, _ in all_actions():
            if is_insertable(system, state, command):
                for other in range(len(system[2])):
                    if other != command:
                        count += 1
                        with self.subTest(system=system, state=state, command=command, other=other):
                            less = taken_out(system, other)
                            self.assertIs(is_insertable(less, state, command - (other < command)), True)
        self.assertGreater(count, 100)

    def test_if_all_actions_of_reachable_states_are_revocable(self):
        for system in regular_systems():
            reached = states_reached(system, system[1])
            for state, command, _ in actions_in(system):
                if state in reached:
                    on = told_table(system, state, command)
                    back = insertion_table(system, state, command)
                    with self.subTest(system=system, state=state, command=command):
                        self.assertIs(is_insertable(system, state, command), True)
                        for item in range(system[0]):
                            self.assertEqual(back[item], on.index(item) if item in reached else None)


class InsertionTableTest(unittest.TestCase):

    def test_the_examples(self):
        self.assertEqual(insertion_table(PLACE, 0, 1), (0, 1, 2))
        self.assertIs(insertion_table(PLACE, 0, 0), None)
        self.assertEqual(insertion_table(RING, 0, 0), (1, 2, 0))
        self.assertEqual(insertion_table(STOP, 0, 0), (1, 1, 2))

    def test_states_that_are_not_reached_have_none(self):
        self.assertEqual(insertion_table((5, 0, ((1, 0, 3, 4, 2),)), 0, 0), (1, 0, None, None, None))
        self.assertEqual(insertion_table((5, 0, ((1, 0, 3, 4, 2),)), 3, 0), (None, None, 3, 4, 2))
        self.assertEqual(insertion_table(LADDER, 5, 0), (None,) * 5 + (6, 7, 7))
        self.assertEqual(insertion_table(SNARE, 0, 0), (1, 2, 3, 4, 5, 6, 7, 1))

    def test_all_actions(self):
        for system, state, command, behind in all_actions():
            seconds = seconds_reached(system, state, behind)
            with self.subTest(system=system, state=state, command=command):
                table = insertion_table(system, state, command)
                if max(len(some) for some in seconds) > 1:
                    self.assertIs(table, None)
                else:
                    self.assertEqual(table, tuple(some[0] if some else None for some in seconds))

    def test_it_tells_the_state_with_the_action_whatever_came_since(self):
        for system in SYSTEMS + regular_systems():
            commands = tuple(range(len(system[2])))
            for state, command, behind in actions_in(system):
                table = insertion_table(system, state, command)
                if table is not None:
                    for sequence in [*sequences_by_length(system, 3), commands * 9, commands[::-1] * 7]:
                        with self.subTest(system=system, state=state, command=command, sequence=sequence):
                            present = place_after(system, state, sequence)
                            self.assertEqual(table[present], place_after(system, behind, sequence))


class AcceptsInsertionTest(ArgumentCase):

    def assert_accepts(self, right, system, state, command, table):
        with self.subTest(system=system, state=state, command=command, table=table):
            self.assertIs(accepts_insertion(system, state, command, table), right)

    def test_the_examples(self):
        self.assert_accepts(True, RING, 0, 0, (1, 2, 0))
        self.assert_accepts(False, RING, 0, 0, (1, 2, None))
        self.assert_accepts(True, STOP, 0, 0, (1, 1, 2))

    def test_what_is_told_is_accepted(self):
        for system, state, command, _ in all_actions():
            table = insertion_table(system, state, command)
            if table is not None:
                self.assert_accepts(True, system, state, command, table)

    def test_entries_where_the_insertion_table_has_none(self):
        two = (4, 0, ((1, 0, 3, 2),))
        self.assertEqual(insertion_table(two, 0, 0), (1, 0, None, None))
        for table in ((1, 0, 2, 3), (1, 0, 3, 2), (1, 0, 0, 1), (1, 0, 1, 0)):
            self.assert_accepts(True, two, 0, 0, table)
        for table in ((1, 0, 2, None), (1, 0, None, 2), (1, 0, 2, 2), (1, 0, 3, 3), (1, 0, 0, 2)):
            self.assert_accepts(False, two, 0, 0, table)
        self.assert_accepts(True, LADDER, 5, 0, (1, 2, 3, 4, 5, 6, 7, 7))
        self.assert_accepts(False, LADDER, 5, 0, (1, 2, 3, 4, None, 6, 7, 7))
        self.assert_accepts(True, LADDER, 5, 0, (None, 2, 3, 4, 5, 6, 7, 7))

    def test_all_tables_of_small_systems(self):
        for system in small_systems() + [EXAMPLE, PLACE, STOP, (4, 1, ((1, 0, 3, 2),)), (4, 1, ((3, 0, 0, 0),))]:
            tables = list(itertools.product([None, *range(system[0])], repeat=system[0]))
            for state, command, behind in actions_in(system):
                right = [table for table in tables if self.is_good(system, state, behind, table)]
                told = insertion_table(system, state, command)
                with self.subTest(system=system, state=state, command=command):
                    accepted = [table for table in tables if accepts_insertion(system, state, command, table)]
                    self.assertEqual(accepted, right)
                    self.assertIs(right == [], told is None)
                    for table in right:
                        shown = [entry if known is not None else None for entry, known in zip(table, told)]
                        self.assertEqual(tuple(shown), told)

    def is_good(self, system, one, other, table):
        chosen = [state for state in range(system[0]) if table[state] is not None]
        return table[one] == other and all(
            row[state] in chosen and table[row[state]] == row[table[state]] for row in system[2] for state in chosen)

    def test_it_leads_from_the_state_before_to_the_state_after_the_action(self):
        for table in ((2, 0, 1), (0, 1, 2), (1, 2, 0)):
            self.assert_accepts(table == (1, 2, 0), RING, 0, 0, table)
        self.assert_accepts(False, RING, 0, 0, (None,) * 3)
        self.assert_accepts(False, (1, 0, ((0,),)), 0, 0, (None,))

    def test_other_values(self):
        for system, state, command, table in (
                (CARDS, 0, 0, (1, 0, 3, 2, 5, 4)), (RING, 1, 0, (1, 2, 0)), (PLACE, 0, 1, (0, 1, 2)),
                (STOP, 0, 0, (1, 1, 2)), (LADDER, 6, 0, (None,) * 6 + (7, 7)), ((1, 0, ((0,),)), 0, 0, (0,))):
            self.assert_refused(lambda value, told=(system, state, command): accepts_insertion(*told, value), table)
            for wrong in ((), table[:-1], table + (0,), table + (None,), table + table, (table, table), None):
                self.assert_accepts(False, system, state, command, wrong)


class InsertionRefutationTest(unittest.TestCase):

    def test_the_examples(self):
        self.assertEqual(insertion_refutation(PLACE, 0, 0), ((), (1,)))
        self.assertIs(insertion_refutation(PLACE, 0, 1), None)
        self.assertIs(insertion_refutation(STOP, 0, 0), None)

    def test_long_ones(self):
        # From 0 the command 0 goes on to 3, where it stays; from 4, where the command 1 leads, it goes round.
        system = (8, 0, ((1, 2, 3, 3, 5, 6, 7, 4), (4,) * 8))
        self.assertEqual(insertion_refutation(system, 0, 1), ((0,) * 3, (0,) * 4))
        # From 0 a command leads round in 2 states, from 2 in 6: the present state comes back long before the other one.
        rings = (8, 0, ((1, 0, 3, 4, 5, 6, 7, 2), (2, 1, 2, 3, 4, 5, 6, 7)))
        self.assertEqual(insertion_refutation(rings, 0, 1), first_refutation(rings, 0, 2, 4))
        self.assertEqual(insertion_refutation(rings, 0, 1), ((), (0, 0)))

    def test_all_actions_by_trying_all_sequences(self):
        tried = []
        for system in SYSTEMS + small_systems() + mixed_systems(60) + permutation_systems(40):
            for state, command, behind in actions_in(system):
                longest = longest_to_try(system)
                told = insertion_refutation(system, state, command)
                expected = first_refutation(system, state, behind, longest)
                with self.subTest(system=system, state=state, command=command):
                    self.assertIs(told is None, is_insertable(system, state, command))
                    if expected is None and told is not None:
                        self.assertGreater(len(told[1]), longest)
                    else:
                        self.assertEqual(told, expected)
                        tried.append(told is None)
        self.assertGreater(tried.count(False), 200)


class RefutesInsertionTest(ArgumentCase):

    def assert_refutes(self, right, system, state, command, value):
        with self.subTest(system=system, state=state, command=command, value=value):
            self.assertIs(refutes_insertion(system, state, command, value), right)

    def test_the_examples(self):
        self.assert_refutes(True, PLACE, 0, 0, ((), (1,)))
        self.assert_refutes(False, PLACE, 0, 0, ((), (0,)))

    def test_what_is_told_is_accepted_in_both_orders(self):
        for system, state, command, _ in all_actions():
            told = insertion_refutation(system, state, command)
            if told is not None:
                self.assert_refutes(True, system, state, command, told)
                self.assert_refutes(True, system, state, command, (told[1], told[0]))
                self.assert_refutes(False, system, state, command, (told[0], told[0]))
                self.assert_refutes(False, system, state, command, (told[1], told[1]))

    def test_all_pairs_of_short_sequences(self):
        for system in small_systems() + [EXAMPLE, PLACE, STOP, RING, CARDS]:
            sequences = list(sequences_by_length(system, 2))
            for state, command, behind in actions_in(system):
                for one, other in itertools.product(sequences, repeat=2):
                    right = (place_after(system, state, one) == place_after(system, state, other)
                             and place_after(system, behind, one) != place_after(system, behind, other))
                    self.assert_refutes(right, system, state, command, (one, other))

    def test_from_the_state_before_to_the_same_and_from_the_state_after_to_different_ones(self):
        system = (4, 0, ((1, 2, 2, 2), (1, 3, 2, 3)))
        self.assert_refutes(True, system, 0, 0, ((0,), (1,)))
        self.assert_refutes(False, system, 0, 0, ((0,), (0, 0)))
        self.assert_refutes(False, system, 0, 0, ((0, 0), (0, 0, 0)))

    def test_64_commands_and_no_more(self):
        # Behind the action the state is 1, from which the command 0 leads to 2; without it all stays 0.
        system = (3, 0, ((0, 2, 2), (1, 1, 2)))
        for length in (0, 1, 16, 17, 63, 64):
            self.assert_refutes(length > 0, system, 0, 1, ((), (0,) * length))
            self.assert_refutes(length > 0, system, 0, 1, ((0,) * length, ()))
        for length in (65, 66, 100, 1000):
            self.assert_refutes(False, system, 0, 1, ((), (0,) * length))
            self.assert_refutes(False, system, 0, 1, ((0,) * length, ()))

    def test_other_values(self):
        system = (3, 0, ((0, 2, 2), (1, 1, 2)))
        for told, value in (((PLACE, 0, 0), ((), (1,))), ((system, 0, 1), ((), (0, 0))), ((system, 0, 1), ((0,), ()))):
            self.assert_refused(lambda other, told=told: refutes_insertion(*told, other), value)
            for wrong in ((), value[:1], value[1:], value + ((),), value + value, (value,), (*value, None), value[0]):
                self.assert_refutes(False, *told, wrong)
        for command in (2, 3, 4, -1, True, False, None):
            self.assert_refutes(False, system, 0, 1, ((), (0, command)))
            self.assert_refutes(False, system, 0, 1, ((), (command, 0)))


class CanExchangeTest(unittest.TestCase):

    def test_the_examples(self):
        self.assertIs(can_exchange(PLACE, 0, 0, 1), False)
        self.assertIs(can_exchange(RING, 0, 0, 0), True)

    def test_all_systems_in_all_states_also_those_that_are_not_reachable(self):
        for system in ALL:
            commands = range(len(system[2]))
            for state, one, other in itertools.product(range(system[0]), commands, commands):
                right = system[2][other][system[2][one][state]] == system[2][one][system[2][other][state]]
                with self.subTest(system=system, state=state, one=one, other=other):
                    self.assertIs(can_exchange(system, state, one, other), right)

    def test_if_all_actions_of_reachable_states_are_revocable_one_state_tells_all(self):
        told = []
        for system in regular_systems():
            reached = states_reached(system, system[1])
            for one, other in itertools.combinations(range(len(system[2])), 2):
                found = {can_exchange(system, state, one, other) for state in reached}
                with self.subTest(system=system, one=one, other=other):
                    self.assertEqual(len(found), 1)
                told += found
        self.assertEqual(set(told), {True, False})


class WrongArgumentTest(ArgumentCase):

    WRONG = [("system", NO_SYSTEMS), ("state", NO_NUMBERS + [3, 8]), ("command", NO_NUMBERS + [2, 4])]

    def test_of_an_action(self):
        for function in (is_insertable, insertion_table, insertion_refutation):
            self.assert_checked(function, (PLACE, 0, 0), self.WRONG)
        for function, value in itertools.product((accepts_insertion, refutes_insertion), ((0, 1, 2), ((), (1,)), None)):
            self.assert_checked(function, (PLACE, 0, 0, value), self.WRONG)

    def test_can_exchange(self):
        wrong = self.WRONG[:2] + [("one", NO_NUMBERS + [2, 4]), ("other", NO_NUMBERS + [2, 4])]
        self.assert_checked(can_exchange, (PLACE, 0, 0, 1), wrong)

    def test_without_commands_there_is_no_action(self):
        for function in (is_insertable, insertion_table, insertion_refutation):
            self.assert_bad("command", function, ALONE, 0, 0)
        for function in (accepts_insertion, refutes_insertion):
            self.assert_bad("command", function, ALONE, 0, 0, (0,))
        self.assert_bad("one", can_exchange, ALONE, 0, 0, 0)

    def test_the_state_need_not_be_reachable(self):
        self.assertIs(is_insertable(EXAMPLE, 2, 0), True)
        self.assertIs(accepts_insertion(EXAMPLE, 2, 0, (0, 1, 2)), True)
        self.assertIs(can_exchange(EXAMPLE, 2, 1, 1), True)


class SameCallTest(unittest.TestCase):

    def told(self, system):
        return [is_insertable(system, 0, 0), insertion_table(system, 0, 0), insertion_refutation(system, 0, 0),
                accepts_insertion(system, 0, 0, (1, 2, 0)), refutes_insertion(system, 0, 0, ((), (0,)))]

    def test_the_same_call_twice(self):
        systems = (EXAMPLE, PLACE, RING, WIDEST, STOP)
        first = [self.told(system) for system in systems]
        self.assertEqual([self.told(system) for system in systems], first)

    def test_kinds_of_values(self):
        told = [insertion_table(RING, 0, 0), insertion_refutation(PLACE, 0, 0), *insertion_refutation(PLACE, 0, 0)]
        self.assertEqual([type(value) for value in told], [tuple] * 4)

    def test_arguments_are_not_modified(self):
        table, value = [1, 2, 0], [[], [1]]
        self.assertIs(accepts_insertion(RING, 0, 0, table), False)
        self.assertIs(refutes_insertion(PLACE, 0, 0, value), False)
        self.assertEqual((table, value), ([1, 2, 0], [[], [1]]))

    def test_arguments_by_their_names(self):
        action = {"system": RING, "state": 0, "command": 0}
        self.assertEqual((is_insertable(**action), insertion_table(**action)), (True, (1, 2, 0)))
        self.assertIs(insertion_refutation(**action), None)
        self.assertIs(accepts_insertion(value=(1, 2, 0), **action), True)
        self.assertIs(refutes_insertion(value=((), (0,)), **action), False)
        self.assertIs(can_exchange(system=RING, state=0, one=0, other=0), True)


if __name__ == "__main__":
    unittest.main()
