"""Points 2 to 8 and 13 to 19, and the interface of undobystate/agreeing.py."""

import itertools
import unittest

from cases import ALONE, CARDS, EXAMPLE, LADDER, NO_NUMBERS, NO_SEQUENCES, NO_SYSTEMS, PLACE, RING, WIDEST
from cases import ArgumentCase, chosen_in, mixed_systems, permutation_systems, place_after, sequences_by_length
from cases import small_systems
from undobystate.agreeing import accepts_merged, agree, difference, exchanged, inverse, merged, one_to_one
from undobystate.errors import NotPossible

# The command 0 merges 1 and 4, 2 and 3, 5 and 7 (7 is not reachable); the command 1 merges 0 and 6 alone.
MERGING = (8, 0, ((1, 2, 3, 3, 2, 6, 5, 6), (5, 1, 2, 3, 4, 0, 5, 7), (4, 1, 2, 3, 6, 0, 5, 0)))

SYSTEMS = [EXAMPLE, PLACE, CARDS, LADDER, RING, ALONE, WIDEST, MERGING, (8, 3, ()), (1, 0, ((0,),) * 4)]
ALL = SYSTEMS + small_systems() + mixed_systems(60) + permutation_systems(80)


class AgreeTest(unittest.TestCase):

    def test_the_example(self):
        self.assertIs(agree(EXAMPLE, (0, 0), (), 2), True)
        self.assertIs(agree(EXAMPLE, (0,), (), 2), True)
        self.assertIs(agree(EXAMPLE, (0,), (), 1), False)
        self.assertIs(agree(EXAMPLE, (1, 0), (0, 1), 0), False)

    def test_all_systems_at_all_states_also_those_that_are_not_reachable(self):
        for system in small_systems() + mixed_systems(12) + SYSTEMS:
            sequences = list(sequences_by_length(system, 2))
            for first, second in itertools.product(sequences, repeat=2):
                for state in range(system[0]):
                    expected = place_after(system, state, first) == place_after(system, state, second)
                    with self.subTest(system=system, first=first, second=second, state=state):
                        self.assertIs(agree(system, first, second, state), expected)

    def test_sixteen_commands(self):
        self.assertIs(agree(RING, (0,) * 16, (0,), 1), True)
        self.assertIs(agree(RING, (0,), (0,) * 16, 1), True)
        self.assertIs(agree(RING, (0,) * 16, (0,) * 15, 1), False)

    def test_without_commands(self):
        for state in range(8):
            self.assertIs(agree((8, 3, ()), (), (), state), True)


class DifferenceTest(unittest.TestCase):

    def test_the_example(self):
        self.assertIs(difference(EXAMPLE, (0, 1), (1,)), None)
        self.assertEqual(difference(EXAMPLE, (0, 1), (1, 0)), 0)

    def test_states_that_are_not_reachable_do_not_count(self):
        self.assertIs(agree(EXAMPLE, (1,), (0, 1), 2), True)
        self.assertIs(difference(EXAMPLE, (1, 1), (0, 1)), None)
        self.assertIs(difference((3, 0, ((0, 2, 2),)), (0,), ()), None)
        self.assertEqual(difference((3, 1, ((0, 2, 2),)), (0,), ()), 1)
        self.assertIs(difference((3, 2, ((0, 2, 2),)), (0,), ()), None)

    def test_it_is_the_least_state_and_not_the_start_or_the_one_that_is_found_first(self):
        self.assertEqual(difference((4, 3, ((1, 0, 2, 2), (3, 1, 0, 2))), (0,), ()), 0)
        self.assertEqual(difference((4, 3, ((0, 2, 1, 3), (1, 2, 3, 0))), (0,), ()), 1)
        self.assertEqual(difference((8, 0, (LADDER[2][0], (0, 1, 2, 3, 4, 5, 6, 0))), (1,), ()), 7)

    def test_all_systems(self):
        for system in ALL:
            sequences = list(sequences_by_length(system, 2))[:9]
            for first, second in itertools.product(sequences, repeat=2):
                apart = [state for state in chosen_in(system)
                         if place_after(system, state, first) != place_after(system, state, second)]
                with self.subTest(system=system, first=first, second=second):
                    found = difference(system, first, second)
                    if apart:
                        self.assertEqual(found, apart[0])
                    else:
                        self.assertIs(found, None)

    def test_sixteen_commands(self):
        self.assertEqual(difference(RING, (0,) * 16, (0,) * 15), 0)
        self.assertIs(difference(RING, (0,) * 16, (0,)), None)


class OneToOneTest(unittest.TestCase):

    def test_the_example(self):
        self.assertEqual(one_to_one(EXAMPLE), (0,))
        self.assertEqual((one_to_one(PLACE), one_to_one(CARDS), one_to_one(LADDER)), ((0, 1), (0, 1), ()))
        self.assertEqual((one_to_one(ALONE), one_to_one(WIDEST)), ((), (0, 2, 3)))

    def test_only_reachable_states_count(self):
        # The command 0 leads from 1 and 2 to 0; from the start 0 they are not reached.
        for start, told in ((0, (0,)), (1, (0,)), (2, ())):
            with self.subTest(start=start):
                self.assertEqual(one_to_one((3, start, ((1, 0, 0),))), told)

    def test_all_systems(self):
        for system in ALL:
            chosen = chosen_in(system)
            expected = [k for k, row in enumerate(system[2]) if len({row[state] for state in chosen}) == len(chosen)]
            with self.subTest(system=system):
                self.assertEqual(one_to_one(system), tuple(expected))
                for command in range(len(system[2])):
                    self.assertIs(merged(system, command) is None, command in expected)

    def test_different_states_are_led_to_different_ones_by_sequences_of_such_commands(self):
        for system in mixed_systems(60) + permutation_systems(60):
            right = one_to_one(system)
            chosen = chosen_in(system)
            for sequence in itertools.product(right, repeat=3):
                with self.subTest(system=system, sequence=sequence):
                    self.assertEqual(len({place_after(system, state, sequence) for state in chosen}), len(chosen))

    def test_the_commands_of_what_agrees_everywhere_with_the_empty_sequence_are_one_to_one(self):
        count = 0
        for system in mixed_systems(60) + permutation_systems(60):
            for sequence in sequences_by_length(system, 3):
                if difference(system, sequence, ()) is None:
                    count += len(sequence)
                    with self.subTest(system=system, sequence=sequence):
                        self.assertTrue(set(sequence) <= set(one_to_one(system)))
        self.assertGreater(count, 100)


class MergedTest(ArgumentCase):

    def test_the_example(self):
        self.assertEqual(merged(EXAMPLE, 1), (0, 1))
        self.assertIs(merged(EXAMPLE, 0), None)
        self.assertIs(accepts_merged(EXAMPLE, 1, (0, 1)), True)
        self.assertIs(accepts_merged(EXAMPLE, 0, (0, 1)), False)

    def test_the_first_pair_of_several_ones(self):
        self.assertEqual(merged(MERGING, 0), (1, 4))
        self.assertEqual(merged(MERGING, 1), (0, 6))
        self.assertIs(merged(MERGING, 2), None)
        self.assertEqual(merged((4, 0, ((1, 3, 3, 1), (1, 2, 3, 0))), 0), (0, 3))
        self.assertEqual(merged((3, 0, ((0, 0, 0), (1, 2, 0))), 0), (0, 1))
        self.assertEqual(merged(WIDEST, 1), (0, 1))

    def test_pairs_with_a_state_that_is_not_reachable_do_not_count(self):
        system = (4, 0, ((1, 2, 0, 0), (3, 3, 3, 3)))
        self.assertIs(merged((4, 0, system[2][:1]), 0), None)
        self.assertEqual(merged(system, 0), (2, 3))
        self.assertIs(accepts_merged((4, 0, system[2][:1]), 0, (2, 3)), False)
        self.assertIs(accepts_merged(system, 0, (2, 3)), True)
        self.assertIs(accepts_merged((3, 0, ((0, 2, 2),)), 0, (1, 2)), False)

    def test_all_systems_and_pairs(self):
        for system in ALL:
            chosen = chosen_in(system)
            for command, row in enumerate(system[2]):
                pairs = [pair for pair in itertools.combinations(chosen, 2) if row[pair[0]] == row[pair[1]]]
                with self.subTest(system=system, command=command):
                    self.assertEqual(merged(system, command), pairs[0] if pairs else None)
                    tried = itertools.product(range(-1, system[0] + 1), repeat=2)
                    self.assertEqual([pair for pair in tried if accepts_merged(system, command, pair)], pairs)

    def test_the_lesser_state_stands_first_and_none_twice(self):
        for value in ((1, 0), (0, 0), (1, 1), (2, 2)):
            self.assertIs(accepts_merged(EXAMPLE, 1, value), False)

    def test_other_values(self):
        for system, command, value in ((EXAMPLE, 1, (0, 1)), (MERGING, 0, (2, 3)), (WIDEST, 1, (0, 7))):
            self.assert_refused(lambda other, told=(system, command): accepts_merged(*told, other), value)
        for value in ((), (0,), (1,), (0, 1, 1), (0, 1, 2), (0, 1, None), ((0, 1),), (0, (1,))):
            with self.subTest(value=value):
                self.assertIs(accepts_merged(EXAMPLE, 1, value), False)


class InverseTest(unittest.TestCase):

    def assert_not_possible(self, system, command):
        with self.subTest(system=system, command=command):
            with self.assertRaises(NotPossible) as caught:
                inverse(system, command)
            self.assertEqual(caught.exception.why, "merge")

    def test_the_example(self):
        self.assertEqual(inverse(EXAMPLE, 0), (1, 0, None))
        self.assert_not_possible(EXAMPLE, 1)

    def test_it_leads_back(self):
        self.assertEqual(inverse(RING, 0), (2, 0, 1))
        self.assertEqual(inverse(CARDS, 0), (1, 0, 4, 5, 2, 3))
        self.assertEqual(inverse(WIDEST, 3), (7, 0, 1, 2, 3, 4, 5, 6))

    def test_states_that_are_not_reachable_have_none(self):
        self.assertEqual(inverse((4, 0, ((1, 0, 0, 1),)), 0), (1, 0, None, None))
        self.assertEqual(inverse((4, 2, ((2, 2, 3, 2),)), 0), (None, None, 3, 2))
        self.assertEqual(inverse((8, 5, ((5,) * 8,)), 0), (None,) * 5 + (5, None, None))

    def test_all_systems(self):
        for system in ALL:
            chosen = chosen_in(system)
            for command, row in enumerate(system[2]):
                if command not in one_to_one(system):
                    self.assert_not_possible(system, command)
                    continue
                with self.subTest(system=system, command=command):
                    back = inverse(system, command)
                    self.assertEqual((type(back), len(back)), (tuple, system[0]))
                    for state in range(system[0]):
                        from_where = [item for item in chosen if row[item] == state]
                        self.assertEqual([back[state]], from_where if state in chosen else [None])


class ExchangedTest(unittest.TestCase):

    def test_the_example(self):
        self.assertEqual(exchanged(EXAMPLE, 0, 1), ())
        self.assertEqual(exchanged(EXAMPLE, 1, 1), (0, 1))
        self.assertEqual(exchanged(PLACE, 0, 1), ())

    def test_some_states(self):
        self.assertEqual(exchanged((3, 0, ((1, 0, 2), (1, 2, 2))), 0, 1), (2,))
        self.assertEqual(exchanged((3, 0, ((1, 0, 2), (2, 2, 2))), 0, 1), (0, 1, 2))
        self.assertEqual(exchanged((3, 2, ((1, 0, 2), (2, 2, 2))), 0, 1), (2,))

    def test_all_systems(self):
        for system in ALL:
            commands = range(len(system[2]))
            for command, other in itertools.product(commands, repeat=2):
                rows = system[2][command], system[2][other]
                expected = [state for state in chosen_in(system) if rows[1][rows[0][state]] == rows[0][rows[1][state]]]
                with self.subTest(system=system, command=command, other=other):
                    self.assertEqual(exchanged(system, command, other), tuple(expected))
                    self.assertEqual(exchanged(system, other, command), tuple(expected))

    def test_exchanged_in_all_states_their_order_does_not_matter(self):
        count = 0
        for system in mixed_systems(80) + permutation_systems(40) + [(4, 0, ((1, 0, 3, 2), (2, 3, 0, 1)))]:
            for command, other in itertools.combinations(range(len(system[2])), 2):
                if exchanged(system, command, other) == tuple(chosen_in(system)):
                    count += 1
                    for sequence in itertools.permutations((command, command, other, other)):
                        with self.subTest(system=system, sequence=sequence):
                            self.assertIs(difference(system, sequence, (command, command, other, other)), None)
        self.assertGreater(count, 5)


class WrongArgumentTest(ArgumentCase):

    def test_agree(self):
        wrong = [("system", NO_SYSTEMS), ("first", NO_SEQUENCES), ("second", NO_SEQUENCES)]
        self.assert_checked(agree, (EXAMPLE, (0, 1), (1,), 2), wrong + [("state", NO_NUMBERS + [3, 8])])

    def test_difference(self):
        wrong = [("system", NO_SYSTEMS), ("first", NO_SEQUENCES), ("second", NO_SEQUENCES)]
        self.assert_checked(difference, (EXAMPLE, (0, 1), (1,)), wrong)

    def test_one_to_one(self):
        self.assert_checked(one_to_one, (EXAMPLE,), [("system", NO_SYSTEMS)])

    def test_of_one_command(self):
        wrong = [("system", NO_SYSTEMS), ("command", NO_NUMBERS + [2, 4])]
        self.assert_checked(merged, (EXAMPLE, 1), wrong)
        self.assert_checked(accepts_merged, (EXAMPLE, 1, (0, 1)), wrong)
        self.assert_checked(inverse, (EXAMPLE, 0), wrong)

    def test_exchanged(self):
        wrong = [("system", NO_SYSTEMS), ("command", NO_NUMBERS + [2, 4]), ("other", NO_NUMBERS + [2, 4])]
        self.assert_checked(exchanged, (EXAMPLE, 0, 1), wrong)

    def test_no_command_is_right_if_there_are_none(self):
        for command in (0, 1):
            self.assert_bad("command", merged, ALONE, command)
            self.assert_bad("command", accepts_merged, ALONE, command, (0, 1))
            self.assert_bad("command", inverse, ALONE, command)
            self.assert_bad("command", exchanged, ALONE, command, command)
        self.assert_bad("first", agree, ALONE, (0,), (), 0)
        self.assert_bad("second", difference, ALONE, (), (0,))

    def test_seventeen_commands(self):
        self.assert_bad("first", agree, RING, (0,) * 17, (0,) * 17, 0)
        self.assert_bad("second", agree, RING, (0,) * 16, (0,) * 17, 0)
        self.assert_bad("first", difference, RING, (0,) * 17, ())
        self.assert_bad("second", difference, RING, (), (0,) * 17)

    def test_a_wrong_argument_comes_before_what_is_not_possible(self):
        self.assert_bad("system", inverse, (2, 0, [(0, 0), (1, 1)]), 0)
        self.assert_bad("command", inverse, (2, 0, ((1, 1), (1, 1))), 2)
        self.assert_bad("command", inverse, (2, 0, ((1, 1), (1, 1))), True)


class SameCallTest(unittest.TestCase):

    def told(self, system):
        return [agree(system, (0,), (0, 0), 1), difference(system, (0,), (0, 0)), one_to_one(system), merged(system, 0),
                accepts_merged(system, 0, (0, 1)), exchanged(system, 0, 1)]

    def test_the_same_call_twice(self):
        first = [self.told(system) for system in (EXAMPLE, PLACE, MERGING)]
        self.assertEqual([self.told(system) for system in (EXAMPLE, PLACE, MERGING)], first)

    def test_kinds_of_values(self):
        told = [one_to_one(MERGING), merged(MERGING, 0), inverse(MERGING, 2), exchanged(PLACE, 0, 1), one_to_one(ALONE)]
        self.assertEqual([type(value) for value in told], [tuple] * 5)
        self.assertIs(type(difference(PLACE, (0,), ())), int)

    def test_arguments_by_their_names(self):
        self.assertIs(agree(system=EXAMPLE, first=(0, 0), second=(), state=2), True)
        self.assertIs(difference(system=EXAMPLE, first=(0, 1), second=(1,)), None)
        self.assertEqual((one_to_one(system=EXAMPLE), merged(system=EXAMPLE, command=1)), ((0,), (0, 1)))
        self.assertIs(accepts_merged(system=EXAMPLE, command=1, value=(0, 1)), True)
        self.assertEqual(inverse(system=EXAMPLE, command=0), (1, 0, None))
        self.assertEqual(exchanged(system=EXAMPLE, command=0, other=1), ())


if __name__ == "__main__":
    unittest.main()
