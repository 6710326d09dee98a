"""Points 2 to 8, 77, 80, 85, 86 and 87, and the interface of undobystate/effects.py."""

import itertools
import unittest

from cases import ALL_MAPS, ALONE, CARDS, EXAMPLE, FIVE, LADDER, MORE, NO_SEQUENCES, NO_SYSTEMS, PLACE, RING, SIX, STOP
from cases import ArgumentCase, chosen_in, effect_of, effects_reached, mixed_systems, permutation_systems
from cases import place_after, regular_systems, sequences_by_length, small_systems
from undobystate.effects import count_effects, effect_system, first_sequences, have_same_effect
from undobystate.errors import TooLarge
from undobystate.groups import is_regular

# The last one of the 83 first sequences has 17 commands.
LONG = (5, 0, ((1, 1, 3, 3, 1), (2, 0, 1, 4, 3)))

SYSTEMS = [EXAMPLE, PLACE, CARDS, LADDER, RING, ALONE, STOP, FIVE, LONG, (8, 3, ()), (1, 0, ((0,),) * 4)]
ALL = SYSTEMS + small_systems() + mixed_systems(60) + permutation_systems(100) + regular_systems()


class CountTest(unittest.TestCase):

    def test_the_examples(self):
        self.assertEqual((count_effects(PLACE), count_effects(STOP)), (6, 3))

    def test_some_numbers(self):
        self.assertEqual((count_effects(CARDS), count_effects(RING), count_effects(LADDER)), (6, 3, 8))
        self.assertEqual((count_effects(ALONE), count_effects((8, 3, ())), count_effects(EXAMPLE)), (1, 1, 4))
        self.assertEqual(count_effects((1, 0, ((0,),) * 4)), 1)

    def test_states_that_are_not_reachable_do_not_count(self):
        # From 2 the ring of three is not reached, and the other way round.
        system = (5, 0, ((1, 0, 3, 4, 2),))
        self.assertEqual([count_effects((5, start, system[2])) for start in range(5)], [2, 2, 3, 3, 3])

    def test_all_systems(self):
        large = 0
        for system in ALL:
            told = effects_reached(system, 120)
            if told is None:
                large += 1
                continue
            with self.subTest(system=system):
                self.assertEqual(count_effects(system), len(told))
        self.assertGreater(large, 10)

    def test_as_many_as_reachable_states_if_all_their_actions_are_revocable(self):
        for system in ALL:
            if is_regular(system):
                with self.subTest(system=system):
                    self.assertEqual(count_effects(system), len(chosen_in(system)))


class BoundTest(ArgumentCase):

    def assert_too_large(self, system):
        for function in (count_effects, first_sequences, effect_system):
            with self.subTest(function=function.__name__, system=system):
                with self.assertRaises(TooLarge) as caught:
                    function(system)
                self.assertEqual(caught.exception.what, "effects")

    def test_120_effects(self):
        self.assertEqual(count_effects(FIVE), 120)
        self.assertEqual(first_sequences(FIVE), effects_reached(FIVE, 120))
        (states, start, commands), image = effect_system(FIVE)
        self.assertEqual((states, start, len(commands), len(image)), (120, 0, 2, 120))
        self.assertEqual([len(row) for row in commands], [120, 120])

    def test_more_than_120_effects(self):
        self.assertEqual(len(effects_reached(MORE, 125)), 125)
        for system in (MORE, SIX, ALL_MAPS):
            self.assertIs(effects_reached(system, 120), None)
            self.assert_too_large(system)

    def test_121_effects(self):
        # The last state is reached by the last command alone, and stays; the others are led as in FIVE.
        system = (6, 0, ((1, 2, 3, 4, 0, 5), (1, 0, 2, 3, 4, 5), (5,) * 6))
        self.assertEqual(len(effects_reached(system, 121)), 121)
        self.assert_too_large(system)
        self.assertEqual(count_effects((6, 0, system[2][:2])), 120)

    def test_all_systems(self):
        for system in ALL:
            if effects_reached(system, 120) is None:
                self.assert_too_large(system)

    def test_two_sequences_can_be_compared_in_each_system(self):
        for system in (MORE, SIX, ALL_MAPS):
            self.assertIs(have_same_effect(system, (1, 1), ()), True)
            self.assertIs(have_same_effect(system, (1, 0), (0, 1)), False)

    def test_wrong_arguments_come_first(self):
        for function in (count_effects, first_sequences, effect_system):
            self.assert_bad("system", function, (9, 0, (tuple(range(1, 9)) + (0,), (1, 0, *range(2, 9)))))
            self.assert_bad("system", function, list(SIX))
            self.assert_bad("system", function, (*SIX[:2], list(SIX[2])))


class FirstSequencesTest(unittest.TestCase):

    def test_the_example(self):
        self.assertEqual(first_sequences(PLACE), [(), (0,), (1,), (0, 1), (1, 0), (0, 1, 0)])

    def test_some_systems(self):
        self.assertEqual(first_sequences(STOP), [(), (0,), (1,)])
        self.assertEqual(first_sequences(ALONE), [()])
        self.assertEqual(first_sequences(LADDER), [(0,) * length for length in range(8)])
        self.assertEqual(first_sequences(EXAMPLE), [(), (0,), (1,), (1, 0)])

    def test_longer_ones_than_sequences_may_be(self):
        # A ring of five states and one of three, into which the command 1 leads.
        told = first_sequences((8, 0, ((1, 2, 3, 4, 0, 6, 7, 5), (5,) * 8)))
        self.assertEqual([sequence for sequence in told if 1 not in sequence], [(0,) * length for length in range(15)])
        told = first_sequences(LONG)
        self.assertEqual((len(told), len(told[-1])), (83, 17))
        self.assertEqual(told, effects_reached(LONG, 120))

    def test_all_systems_by_trying_all_sequences(self):
        for system in ALL:
            if effects_reached(system, 120) is None:
                continue
            first = {}
            for sequence in sequences_by_length(system, (0, 20, 6, 4, 4)[len(system[2])]):
                first.setdefault(effect_of(system, sequence), sequence)
            told = first_sequences(system)
            with self.subTest(system=system):
                self.assertEqual(told[:len(first)], list(first.values()))
                self.assertEqual(told, effects_reached(system, 120))
                self.assertEqual(told, sorted(told, key=lambda sequence: (len(sequence), sequence)))

    def test_a_new_list_with_each_call(self):
        told = first_sequences(PLACE)
        self.assertIs(type(told), list)
        told.clear()
        told.append("other")
        self.assertEqual(first_sequences(PLACE), [(), (0,), (1,), (0, 1), (1, 0), (0, 1, 0)])
        self.assertEqual(count_effects(PLACE), 6)
        self.assertIsNot(first_sequences(PLACE), first_sequences(PLACE))
        self.assertEqual([type(sequence) for sequence in first_sequences(PLACE)], [tuple] * 6)


class SameEffectTest(unittest.TestCase):

    def test_the_example(self):
        self.assertIs(have_same_effect(PLACE, (0, 1, 0), (1, 0, 1)), True)
        self.assertIs(have_same_effect(PLACE, (0, 1), (1, 0)), False)

    def test_states_that_are_not_reachable_do_not_count(self):
        # At 2 they do not agree.
        self.assertIs(have_same_effect(EXAMPLE, (1, 1), (0, 1)), True)
        self.assertIs(have_same_effect((3, 0, ((0, 2, 1),)), (0,), ()), True)
        self.assertIs(have_same_effect((3, 1, ((0, 2, 1),)), (0,), ()), False)

    def test_from_each_reachable_state_and_not_from_the_start_alone(self):
        self.assertIs(have_same_effect(PLACE, (1,), ()), False)
        self.assertIs(have_same_effect((3, 0, ((1, 2, 2), (1, 1, 2))), (0,), (1,)), False)

    def test_all_systems(self):
        for system in SYSTEMS + small_systems() + mixed_systems(40) + permutation_systems(40):
            for one, other in itertools.product(list(sequences_by_length(system, 3))[:12], repeat=2):
                with self.subTest(system=system, one=one, other=other):
                    right = effect_of(system, one) == effect_of(system, other)
                    self.assertIs(have_same_effect(system, one, other), right)

    def test_with_the_same_sequence_behind_both_they_have_the_same_effect(self):
        for system in SYSTEMS + mixed_systems(40):
            sequences = list(sequences_by_length(system, 2))
            for one, other, last in itertools.product(sequences, repeat=3):
                if have_same_effect(system, one, other):
                    self.assertIs(have_same_effect(system, one + last, other + last), True)

    def test_sixteen_commands(self):
        self.assertIs(have_same_effect(RING, (0,) * 16, (0,)), True)
        self.assertIs(have_same_effect(RING, (0,), (0,) * 16), True)
        self.assertIs(have_same_effect(RING, (0,) * 16, (0,) * 15), False)


class EffectSystemTest(unittest.TestCase):

    def test_the_example(self):
        told = ((6, 0, ((1, 0, 4, 5, 2, 3), (2, 3, 0, 1, 5, 4))), (0, 1, 0, 2, 1, 2))
        self.assertEqual(effect_system(PLACE), told)

    def test_some_systems(self):
        self.assertEqual(effect_system(ALONE), ((1, 0, ()), (0,)))
        self.assertEqual(effect_system((8, 3, ())), ((1, 0, ()), (3,)))
        self.assertEqual(effect_system(RING), (RING, (0, 1, 2)))
        self.assertEqual(effect_system(STOP), ((3, 0, ((1, 1, 1), (2, 2, 2))), (0, 1, 2)))

    def test_the_image_is_where_the_start_is_led(self):
        self.assertEqual(effect_system((3, 2, PLACE[2]))[1], (2, 2, 1, 1, 0, 0))
        self.assertEqual(effect_system((3, 2, ((1, 2, 0),))), (RING, (2, 0, 1)))
        self.assertEqual(effect_system((4, 3, ((2, 1, 3, 2),))), ((2, 0, ((1, 0),)), (3, 2)))

    def test_all_systems(self):
        for system in ALL:
            told = effects_reached(system, 120)
            if told is None:
                continue
            effects = [effect_of(system, sequence) for sequence in told]
            with self.subTest(system=system):
                (states, start, commands), image = effect_system(system)
                self.assertEqual((states, start, len(commands), len(image)), (len(told), 0, len(system[2]), len(told)))
                for number, sequence in enumerate(told):
                    self.assertEqual(image[number], place_after(system, system[1], sequence))
                    for command, row in enumerate(commands):
                        self.assertEqual(len(row), states)
                        self.assertEqual(effects[row[number]], effect_of(system, sequence + (command,)))

    def test_it_is_an_extension_all_states_of_which_are_reachable(self):
        for system in ALL:
            if effects_reached(system, 120) is None:
                continue
            wide, image = effect_system(system)
            with self.subTest(system=system):
                self.assertEqual(image[wide[1]], system[1])
                for state in range(wide[0]):
                    for row, moved in zip(system[2], wide[2]):
                        self.assertEqual(image[moved[state]], row[image[state]])
                reached = [0]
                for state in reached:
                    reached += [row[state] for row in wide[2] if row[state] not in reached]
                self.assertEqual(sorted(set(reached)), list(range(wide[0])))

    def test_whether_commands_are_one_to_one_or_not_it_is_told(self):
        self.assertEqual(effect_system(EXAMPLE), ((4, 0, ((1, 0, 3, 2), (2, 2, 2, 2))), (0, 1, 1, 0)))
        self.assertEqual(effect_system((2, 0, ((1, 0),))), ((2, 0, ((1, 0),)), (0, 1)))

    def test_of_a_regular_system_it_is_the_system_itself_with_other_names(self):
        for system in regular_systems():
            wide, image = effect_system(system)
            with self.subTest(system=system):
                self.assertEqual(sorted(image), chosen_in(system))


class WrongArgumentTest(ArgumentCase):

    def test_of_a_system(self):
        for function in (count_effects, first_sequences, effect_system):
            self.assert_checked(function, (PLACE,), [("system", NO_SYSTEMS)])

    def test_have_same_effect(self):
        wrong = [("system", NO_SYSTEMS), ("one", NO_SEQUENCES), ("other", NO_SEQUENCES)]
        for system in (PLACE, SIX):
            self.assert_checked(have_same_effect, (system, (0, 1), (1,)), wrong)
        self.assert_bad("one", have_same_effect, ALONE, (0,), (0,))
        self.assert_bad("other", have_same_effect, ALONE, (), (0,))
        self.assert_bad("one", have_same_effect, RING, (0,) * 17, (0,) * 17)
        self.assert_bad("other", have_same_effect, RING, (0,) * 16, (0,) * 17)
        self.assert_bad("other", have_same_effect, RING, (), (1,))


class SameCallTest(unittest.TestCase):

    def told(self, system):
        return [count_effects(system), first_sequences(system), effect_system(system), have_same_effect(system, (), ())]

    def test_the_same_call_twice(self):
        systems = (EXAMPLE, PLACE, CARDS, STOP, FIVE)
        first = [self.told(system) for system in systems]
        self.assertEqual([self.told(system) for system in systems], first)

    def test_kinds_of_values(self):
        wide, image = effect_system(PLACE)
        told = [effect_system(PLACE), wide, wide[2], *wide[2], image]
        self.assertEqual([type(value) for value in told], [tuple] * 6)
        self.assertEqual([type(value) for value in (count_effects(PLACE), *wide[:2])], [int] * 3)

    def test_an_error_changes_nothing(self):
        for _ in range(2):
            with self.assertRaises(TooLarge):
                count_effects(SIX)
            self.assertEqual(count_effects(PLACE), 6)

    def test_arguments_by_their_names(self):
        self.assertEqual((count_effects(system=RING), first_sequences(system=RING)), (3, [(), (0,), (0, 0)]))
        self.assertEqual(effect_system(system=RING), (RING, (0, 1, 2)))
        self.assertIs(have_same_effect(system=RING, one=(0,), other=()), False)


if __name__ == "__main__":
    unittest.main()
