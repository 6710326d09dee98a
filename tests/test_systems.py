"""Points 2, 3, 5, 6, 8, 9 and 18, and the interface of undobystate/systems.py."""

import unittest

from cases import ALONE, CARDS, EXAMPLE, LADDER, NO_NUMBERS, NO_SYSTEMS, NO_TUPLES, PLACE, RING, WIDEST
from cases import ArgumentCase, mixed_systems, place_after, sequences_by_length, small_systems
from undobystate.errors import BadValue
from undobystate.systems import is_command, is_sequence, is_state, is_system, led_to, run


class SystemTest(unittest.TestCase):

    def assert_no_system(self, value):
        with self.subTest(value=value):
            self.assertIs(is_system(value), False)

    def test_systems(self):
        systems = [EXAMPLE, PLACE, CARDS, LADDER, RING, ALONE, WIDEST, (3, 2, ()), (1, 0, ((0,),))]
        for value in systems + small_systems() + mixed_systems(50):
            with self.subTest(value=value):
                self.assertIs(is_system(value), True)

    def test_numbers_of_states(self):
        for states in range(1, 9):
            for start in range(states):
                with self.subTest(states=states, start=start):
                    self.assertIs(is_system((states, start, (tuple(range(states)),))), True)
        for states in (0, 9, 10, 100, -1):
            self.assert_no_system((states, 0, ()))
            self.assert_no_system((states, 0, ((0,) * states,)))

    def test_numbers_of_commands(self):
        for many in range(5):
            with self.subTest(many=many):
                self.assertIs(is_system((2, 1, ((1, 0),) * many)), True)
        for many in (5, 6, 17):
            self.assert_no_system((2, 1, ((1, 0),) * many))

    def test_wrong_number_of_states(self):
        # If True were a number of states, these would be systems with one state.
        for states in NO_NUMBERS:
            self.assert_no_system((states, 0, ()))
            self.assert_no_system((states, 0, ((0,),)))

    def test_wrong_start(self):
        for start in NO_NUMBERS + [2, 3, 8]:
            self.assert_no_system((2, start, ()))
            self.assert_no_system((2, start, ((1, 0), (0, 1))))
        self.assert_no_system((8, 8, ()))
        self.assert_no_system((1, 1, ()))

    def test_wrong_state_in_a_command(self):
        for state in NO_NUMBERS + [2, 3, 8]:
            self.assert_no_system((2, 0, ((state, 0),)))
            self.assert_no_system((2, 0, ((0, state),)))
            self.assert_no_system((2, 0, ((0, 1), (1, 1), (0, 0), (0, state))))
        self.assert_no_system((8, 0, ((0, 1, 2, 3, 4, 5, 6, 8),)))

    def test_wrong_length_of_a_command(self):
        for row in ((), (0,), (0, 1), (0, 1, 2, 0)):
            self.assert_no_system((3, 0, (row,)))
            self.assert_no_system((3, 0, ((0, 1, 2), row)))

    def test_no_tuple_in_the_place_of_a_command(self):
        for row in NO_TUPLES:
            self.assert_no_system((2, 0, (row,)))
            self.assert_no_system((2, 0, ((0, 1), row)))

    def test_no_tuple_in_the_place_of_the_commands(self):
        for commands in NO_TUPLES + [[(0, 1)], [(0, 1), (1, 0)], {(0, 1): 0}, "ab"]:
            self.assert_no_system((2, 0, commands))

    def test_no_tuple_in_the_place_of_the_system(self):
        for value in NO_TUPLES + [[2, 0, ()], [2, 0, ((0, 1),)], "20", "abc"]:
            self.assert_no_system(value)

    def test_wrong_length_of_the_system(self):
        for value in ((), (2,), (2, 0), (2, 0, (), ()), (2, 0, ((0, 1),), None), ((2, 0, ()),)):
            self.assert_no_system(value)

    def test_what_the_functions_refuse(self):
        for value in NO_SYSTEMS:
            self.assert_no_system(value)


class StateTest(unittest.TestCase):

    def test_states(self):
        for system in (EXAMPLE, ALONE, WIDEST):
            for value in range(-9, 12):
                with self.subTest(system=system, value=value):
                    self.assertIs(is_state(system, value), 0 <= value < system[0])

    def test_a_state_need_not_be_reachable(self):
        self.assertIs(is_state(EXAMPLE, 2), True)

    def test_other_values(self):
        for value in NO_NUMBERS + [(0, 1, 2), 10 ** 30]:
            with self.subTest(value=value):
                self.assertIs(is_state(WIDEST, value), False)


class CommandTest(unittest.TestCase):

    def test_commands(self):
        for system in (EXAMPLE, ALONE, RING, WIDEST):
            for value in range(-9, 12):
                with self.subTest(system=system, value=value):
                    self.assertIs(is_command(system, value), 0 <= value < len(system[2]))

    def test_other_values(self):
        for value in NO_NUMBERS + [(0, 1, 2), 10 ** 30]:
            with self.subTest(value=value):
                self.assertIs(is_command(WIDEST, value), False)


class SequenceTest(unittest.TestCase):

    def assert_no_sequence(self, system, value):
        with self.subTest(system=system, value=value):
            self.assertIs(is_sequence(system, value), False)

    def test_sequences(self):
        for value in sequences_by_length(EXAMPLE, 5):
            with self.subTest(value=value):
                self.assertIs(is_sequence(EXAMPLE, value), True)

    def test_lengths(self):
        for length in range(20):
            with self.subTest(length=length):
                self.assertIs(is_sequence(EXAMPLE, (0,) * length), length <= 16)
                self.assertIs(is_sequence(EXAMPLE, (1, 0) * length), length <= 8)

    def test_without_commands_there_is_the_empty_one_alone(self):
        self.assertIs(is_sequence(ALONE, ()), True)
        self.assert_no_sequence(ALONE, (0,))

    def test_wrong_number_of_a_command(self):
        for command in NO_NUMBERS + [2, 3, 4]:
            self.assert_no_sequence(EXAMPLE, (command,))
            self.assert_no_sequence(EXAMPLE, (command, 0, 1))
            self.assert_no_sequence(EXAMPLE, (0, 1) * 7 + (0, command))
        self.assert_no_sequence(WIDEST, (4,))
        # A state, but no command.
        self.assert_no_sequence(RING, (1,))

    def test_no_tuple(self):
        for value in NO_TUPLES + [[0, 1, 0], [()]]:
            self.assert_no_sequence(EXAMPLE, value)


class LedToTest(unittest.TestCase):

    def test_the_example(self):
        self.assertEqual(led_to(EXAMPLE, 2, (1, 0)), 1)

    def test_the_empty_sequence_leads_from_each_state_to_itself(self):
        for system in mixed_systems(30):
            for state in range(system[0]):
                with self.subTest(system=system, state=state):
                    self.assertEqual(led_to(system, state, ()), state)

    def test_one_command(self):
        for system in small_systems() + mixed_systems(50):
            for command, row in enumerate(system[2]):
                for state in range(system[0]):
                    with self.subTest(system=system, state=state, command=command):
                        self.assertEqual(led_to(system, state, (command,)), row[state])

    def test_the_commands_are_done_one_after_another(self):
        # Done the other way round, both would lead to another state.
        self.assertEqual(led_to(PLACE, 0, (0, 1)), 2)
        self.assertEqual(led_to(PLACE, 0, (1, 0)), 1)
        self.assertEqual(led_to(EXAMPLE, 2, (0, 1, 0)), 1)

    def test_sequences_from_each_state(self):
        for system in mixed_systems(20):
            for sequence in sequences_by_length(system, 3):
                for state in range(system[0]):
                    with self.subTest(system=system, state=state, sequence=sequence):
                        self.assertEqual(led_to(system, state, sequence), place_after(system, state, sequence))

    def test_sixteen_commands(self):
        self.assertEqual(led_to(RING, 0, (0,) * 16), 1)
        self.assertEqual(led_to(LADDER, 0, (0,) * 16), 7)

    def test_a_sequence_behind_another_one(self):
        for system in mixed_systems(10):
            for one in sequences_by_length(system, 2):
                for other in sequences_by_length(system, 2):
                    with self.subTest(system=system, one=one, other=other):
                        there = led_to(system, system[1], one)
                        self.assertEqual(led_to(system, system[1], one + other), led_to(system, there, other))


class RunTest(unittest.TestCase):

    def test_the_example(self):
        self.assertEqual(run(EXAMPLE, 0, (0, 0, 1)), (0, 1, 0, 1))

    def test_the_empty_sequence(self):
        self.assertEqual(run(EXAMPLE, 2, ()), (2,))
        self.assertEqual(run(ALONE, 0, ()), (0,))

    def test_it_has_the_states_of_all_beginnings(self):
        for system in mixed_systems(20):
            for sequence in sequences_by_length(system, 3):
                for state in range(system[0]):
                    with self.subTest(system=system, state=state, sequence=sequence):
                        beginnings = [sequence[:length] for length in range(len(sequence) + 1)]
                        expected = tuple(place_after(system, state, beginning) for beginning in beginnings)
                        self.assertEqual(run(system, state, sequence), expected)

    def test_states_that_come_back_are_told_again(self):
        self.assertEqual(run(LADDER, 6, (0, 0, 0)), (6, 7, 7, 7))
        self.assertEqual(run(RING, 1, (0,) * 16), (1, 2, 0) * 5 + (1, 2))

    def test_it_is_a_tuple(self):
        self.assertIs(type(run(EXAMPLE, 0, (0, 1))), tuple)


class WrongArgumentTest(ArgumentCase):

    def assert_both_bad(self, name, system, state, sequence):
        self.assert_bad(name, led_to, system, state, sequence)
        self.assert_bad(name, run, system, state, sequence)

    def test_system(self):
        for system in NO_SYSTEMS:
            self.assert_both_bad("system", system, 0, ())

    def test_state(self):
        for state in NO_NUMBERS + [3, 8]:
            self.assert_both_bad("state", EXAMPLE, state, (0, 1))
            self.assert_both_bad("state", EXAMPLE, state, ())

    def test_sequence(self):
        for command in NO_NUMBERS + [2, 3]:
            self.assert_both_bad("sequence", EXAMPLE, 0, (command,))
            self.assert_both_bad("sequence", EXAMPLE, 0, (0, 1, command))
        for sequence in NO_TUPLES:
            self.assert_both_bad("sequence", EXAMPLE, 0, sequence)
        self.assert_both_bad("sequence", EXAMPLE, 0, (0,) * 17)
        self.assert_both_bad("sequence", EXAMPLE, 0, (0,) * 100)
        self.assert_both_bad("sequence", ALONE, 0, (0,))

    def test_the_first_wrong_argument_is_named(self):
        for system in NO_SYSTEMS:
            self.assert_both_bad("system", system, 9, ())
            self.assert_both_bad("system", system, 0, [0])
            self.assert_both_bad("system", system, None, None)
        for state in (None, True, -1, 3):
            self.assert_both_bad("state", EXAMPLE, state, None)
            self.assert_both_bad("state", EXAMPLE, state, (2,))
            self.assert_both_bad("state", EXAMPLE, state, (0,) * 17)


class SameCallTest(unittest.TestCase):

    def test_the_same_call_twice(self):
        for system in (EXAMPLE, PLACE, EXAMPLE, WIDEST, EXAMPLE):
            with self.subTest(system=system):
                self.assertEqual(run(system, 1, (0, 1, 1)), run(system, 1, (0, 1, 1)))
                self.assertEqual(led_to(system, 1, (0, 1, 1)), led_to(system, 1, (0, 1, 1)))
                self.assertEqual(run(system, 1, (0, 1, 1))[-1], place_after(system, 1, (0, 1, 1)))

    def test_true_does_not_pass_behind_the_integer_that_it_equals(self):
        self.assertIs(is_system((1, 0, ())), True)
        self.assertIs(is_system((True, 0, ())), False)
        self.assertIs(is_state(EXAMPLE, 1), True)
        self.assertIs(is_state(EXAMPLE, True), False)
        self.assertIs(is_command(EXAMPLE, 0), True)
        self.assertIs(is_command(EXAMPLE, False), False)
        self.assertIs(is_sequence(EXAMPLE, (1, 0)), True)
        self.assertIs(is_sequence(EXAMPLE, (True, False)), False)
        self.assertEqual(led_to(EXAMPLE, 1, (1,)), 1)
        with self.assertRaises(BadValue):
            led_to(EXAMPLE, True, (1,))
        with self.assertRaises(BadValue):
            led_to(EXAMPLE, 1, (True,))

    def test_an_error_changes_nothing(self):
        for _ in range(2):
            with self.assertRaises(BadValue) as caught:
                run(EXAMPLE, 3, (0,))
            self.assertEqual(caught.exception.name, "state")
            caught.exception.name = "other"
            self.assertEqual(run(EXAMPLE, 0, (0, 0, 1)), (0, 1, 0, 1))

    def test_arguments_are_not_modified(self):
        rows = [[0, 1], [1, 0]]
        system = [2, 0, rows]
        self.assertIs(is_system(system), False)
        self.assertIs(is_system((2, 0, (rows[0], rows[1]))), False)
        sequence = [0, 1]
        self.assertIs(is_sequence(EXAMPLE, sequence), False)
        with self.assertRaises(BadValue):
            run(EXAMPLE, 0, sequence)
        self.assertEqual((system, rows, sequence), ([2, 0, [[0, 1], [1, 0]]], [[0, 1], [1, 0]], [0, 1]))

    def test_changing_an_argument_afterwards_changes_nothing(self):
        drawn = [0, 0, 1]
        told = run(EXAMPLE, 0, tuple(drawn))
        drawn.clear()
        self.assertEqual(told, (0, 1, 0, 1))
        self.assertEqual(run(EXAMPLE, 0, (0, 0, 1)), (0, 1, 0, 1))


class KeywordTest(unittest.TestCase):

    def test_arguments_by_their_names(self):
        self.assertIs(is_system(value=EXAMPLE), True)
        self.assertIs(is_state(system=EXAMPLE, value=2), True)
        self.assertIs(is_command(system=EXAMPLE, value=2), False)
        self.assertIs(is_sequence(system=EXAMPLE, value=(1,)), True)
        self.assertEqual(led_to(system=EXAMPLE, state=2, sequence=(1, 0)), 1)
        self.assertEqual(run(system=EXAMPLE, state=0, sequence=(0, 0, 1)), (0, 1, 0, 1))


if __name__ == "__main__":
    unittest.main()
