"""Points 2, 3, 4, 6, 8, 10, 11, 12 and 18, and the interface of undobystate/reach.py."""

import itertools
import unittest

from cases import ALONE, CARDS, EXAMPLE, LADDER, NO_NUMBERS, NO_SYSTEMS, NO_TUPLES, PLACE, RING, WIDEST
from cases import ArgumentCase, mixed_systems, place_after, sequences_by_length, small_systems, states_reached
from undobystate.errors import BadValue
from undobystate.reach import accepts_reach, first_sequence, reach_evidence, reachable
from undobystate.systems import run

# Two commands, each of which leaves every state as it is.
STILL = (4, 0, ((0, 1, 2, 3), (0, 1, 2, 3)))

# Two pairs of states, each closed.
PAIRS = (4, 0, ((1, 0, 3, 2),))


class ReachableTest(unittest.TestCase):

    def test_the_example(self):
        self.assertEqual(reachable(EXAMPLE), (0, 1))

    def test_without_commands_the_start_alone(self):
        self.assertEqual(reachable(ALONE), (0,))
        self.assertEqual(reachable((8, 5, ())), (5,))

    def test_all_states(self):
        for system in (PLACE, CARDS, LADDER, RING, WIDEST):
            with self.subTest(system=system):
                self.assertEqual(reachable(system), tuple(range(system[0])))

    def test_from_other_starts(self):
        self.assertEqual(reachable((8, 5, LADDER[2])), (5, 6, 7))
        self.assertEqual(reachable((3, 2, EXAMPLE[2])), (0, 1, 2))
        self.assertEqual(reachable((4, 3, PAIRS[2])), (2, 3))

    def test_they_are_ascending_in_whatever_order_they_are_found(self):
        self.assertEqual(reachable((5, 4, ((4, 0, 1, 2, 3),))), (0, 1, 2, 3, 4))
        self.assertEqual(reachable((5, 2, ((0, 1, 4, 3, 0),))), (0, 2, 4))

    def test_all_systems(self):
        for system in small_systems() + mixed_systems(200):
            with self.subTest(system=system):
                self.assertEqual(reachable(system), tuple(sorted(states_reached(system, system[1]))))

    def test_they_are_closed_and_have_the_start(self):
        for system in mixed_systems(200):
            found = reachable(system)
            with self.subTest(system=system):
                self.assertIn(system[1], found)
                for row in system[2]:
                    self.assertTrue(all(row[state] in found for state in found))

    def test_it_is_a_tuple(self):
        self.assertIs(type(reachable(EXAMPLE)), tuple)


class FirstSequenceTest(unittest.TestCase):

    def test_the_example(self):
        self.assertEqual(first_sequence(EXAMPLE, 2, 1), (1, 0))
        self.assertIs(first_sequence(EXAMPLE, 0, 2), None)

    def test_each_state_reaches_itself(self):
        for system in (EXAMPLE, ALONE, WIDEST, STILL, LADDER):
            for state in range(system[0]):
                with self.subTest(system=system, state=state):
                    self.assertEqual(first_sequence(system, state, state), ())

    def test_seven_commands(self):
        self.assertEqual(first_sequence(LADDER, 0, 7), (0,) * 7)
        self.assertIs(first_sequence(LADDER, 7, 0), None)
        self.assertIs(first_sequence(LADDER, 1, 0), None)
        twofold = (8, 0, ((0, 0, 0, 0, 0, 0, 0, 0), LADDER[2][0]))
        self.assertEqual(first_sequence(twofold, 0, 7), (1,) * 7)
        self.assertEqual(first_sequence(twofold, 7, 6), (0,) + (1,) * 6)

    def test_of_equally_many_commands_the_least_tuple(self):
        # (0, 1) and (1, 0) both lead from 0 to 3.
        square = (4, 0, ((1, 0, 3, 2), (2, 3, 0, 1)))
        self.assertEqual(first_sequence(square, 0, 3), (0, 1))
        self.assertEqual(first_sequence((2, 0, ((1, 1),) * 4), 0, 1), (0,))
        # (0, 1, 0), (0, 1, 1) and (1, 0, 0) lead from 0 to 5; read from behind, (1, 0, 0) would be the least.
        forked = (6, 0, ((1, 1, 4, 5, 5, 5), (2, 3, 2, 5, 4, 5)))
        self.assertEqual(first_sequence(forked, 0, 5), (0, 1, 0))

    def test_fewer_commands_come_before_lesser_ones(self):
        # (0, 0) leads from 0 to 2, and (1,) too.
        self.assertEqual(first_sequence((3, 0, ((1, 2, 2), (2, 2, 2))), 0, 2), (1,))
        self.assertEqual(first_sequence((4, 0, ((1, 2, 3, 3), (0, 1, 2, 3), (3, 3, 3, 3))), 0, 3), (2,))

    def test_all_systems(self):
        for system in small_systems() + mixed_systems(40):
            for state in range(system[0]):
                first = self.first_by_trying(system, state, 4)
                for target in range(system[0]):
                    with self.subTest(system=system, state=state, target=target):
                        found = first_sequence(system, state, target)
                        if target in first:
                            self.assertEqual(found, first[target])
                        elif target in states_reached(system, state):
                            self.assertTrue(5 <= len(found) <= 7)
                            self.assertEqual(place_after(system, state, found), target)
                        else:
                            self.assertIs(found, None)

    def first_by_trying(self, system, state, longest):
        first = {}
        for sequence in sequences_by_length(system, longest):
            first.setdefault(place_after(system, state, sequence), sequence)
        return first

    def test_long_ones(self):
        # With two commands all sequences of up to 7 commands can be tried.
        systems = [system for system in mixed_systems(150) if len(system[2]) == 2]
        self.assertGreater(len(systems), 10)
        for system in systems:
            first = self.first_by_trying(system, system[1], 7)
            for target in range(system[0]):
                with self.subTest(system=system, target=target):
                    self.assertEqual(first_sequence(system, system[1], target), first.get(target))

    def test_each_beginning_is_the_first_sequence_to_where_it_leads(self):
        for system in mixed_systems(60):
            for state, target in itertools.product(range(system[0]), repeat=2):
                sequence = first_sequence(system, state, target)
                if sequence is None:
                    continue
                with self.subTest(system=system, state=state, target=target):
                    self.assertLessEqual(len(sequence), 7)
                    for length, there in enumerate(run(system, state, sequence)):
                        self.assertEqual(first_sequence(system, state, there), sequence[:length])

    def test_what_is_reached_by_way_of_another_state_is_reached(self):
        for system in mixed_systems(30):
            states = range(system[0])
            for one, two, three in itertools.product(states, repeat=3):
                ways = (first_sequence(system, one, two), first_sequence(system, two, three))
                if None not in ways:
                    with self.subTest(system=system, one=one, two=two, three=three):
                        self.assertIsNotNone(first_sequence(system, one, three))

    def test_it_does_not_depend_on_the_start(self):
        for start in range(3):
            system = (3, start, EXAMPLE[2])
            with self.subTest(start=start):
                self.assertEqual(first_sequence(system, 2, 1), (1, 0))
                self.assertIs(first_sequence(system, 1, 2), None)

    def test_it_is_a_tuple(self):
        self.assertIs(type(first_sequence(EXAMPLE, 2, 1)), tuple)


class EvidenceTest(unittest.TestCase):

    def test_the_example(self):
        self.assertEqual(reach_evidence(EXAMPLE, 0, 2), ("closed", (0, 1)))

    def test_a_path(self):
        self.assertEqual(reach_evidence(EXAMPLE, 2, 1), ("path", (1, 0)))
        self.assertEqual(reach_evidence(EXAMPLE, 2, 2), ("path", ()))
        self.assertEqual(reach_evidence(LADDER, 0, 7), ("path", (0,) * 7))

    def test_a_closed_set_has_what_the_state_reaches_and_no_more(self):
        self.assertEqual(reach_evidence(STILL, 2, 1), ("closed", (2,)))
        self.assertEqual(reach_evidence(PAIRS, 3, 0), ("closed", (2, 3)))
        self.assertEqual(reach_evidence(LADDER, 5, 0), ("closed", (5, 6, 7)))
        self.assertEqual(reach_evidence((3, 1, ((2, 0, 0), (2, 0, 0))), 0, 1), ("closed", (0, 2)))

    def test_what_is_told_is_accepted(self):
        for system in small_systems() + mixed_systems(100):
            for state, target in itertools.product(range(system[0]), repeat=2):
                with self.subTest(system=system, state=state, target=target):
                    told = reach_evidence(system, state, target)
                    reached = states_reached(system, state)
                    if target in reached:
                        self.assertEqual(told, ("path", first_sequence(system, state, target)))
                    else:
                        self.assertEqual(told, ("closed", tuple(sorted(reached))))
                    self.assertIs(accepts_reach(system, state, target, told), True)

    def test_it_is_a_tuple_of_a_word_and_a_tuple(self):
        for told in (reach_evidence(EXAMPLE, 0, 2), reach_evidence(EXAMPLE, 0, 1)):
            self.assertEqual([type(told), type(told[0]), type(told[1])], [tuple, str, tuple])


class AcceptsPathTest(unittest.TestCase):

    def assert_path(self, accepted, system, state, target, sequence):
        with self.subTest(system=system, state=state, target=target, sequence=sequence):
            self.assertIs(accepts_reach(system, state, target, ("path", sequence)), accepted)

    def test_the_example(self):
        self.assert_path(True, EXAMPLE, 2, 0, (1, 0, 0))

    def test_it_needs_not_be_the_first_one(self):
        for sequence in sequences_by_length(EXAMPLE, 5):
            for state, target in itertools.product(range(3), repeat=2):
                there = place_after(EXAMPLE, state, sequence)
                self.assert_path(there == target, EXAMPLE, state, target, sequence)

    def test_lengths(self):
        for length in (0, 1, 15, 16, 17, 63, 64, 65, 99, 100):
            self.assert_path(True, STILL, 2, 2, (1, 0) * (length // 2) + (1,) * (length % 2))
            self.assert_path(True, RING, 0, length % 3, (0,) * length)
            self.assert_path(False, RING, 0, (length + 1) % 3, (0,) * length)
        for length in (101, 102, 1000):
            self.assert_path(False, STILL, 2, 2, (0,) * length)
            self.assert_path(False, RING, 0, length % 3, (0,) * length)

    def test_the_empty_one_leads_to_the_state_itself_alone(self):
        for state, target in itertools.product(range(4), repeat=2):
            self.assert_path(state == target, STILL, state, target, ())
        self.assert_path(True, ALONE, 0, 0, ())

    def test_the_whole_sequence_leads_to_the_target(self):
        # On its way the sequence comes by the target.
        self.assert_path(False, LADDER, 0, 3, (0, 0, 0, 0))
        self.assert_path(True, LADDER, 0, 3, (0, 0, 0))

    def test_from_the_state_and_not_from_the_start_or_the_target(self):
        self.assert_path(False, LADDER, 1, 2, (0, 0))
        self.assert_path(False, LADDER, 2, 1, (0,))
        self.assert_path(True, LADDER, 2, 3, (0,))

    def test_wrong_numbers_of_commands(self):
        for command in NO_NUMBERS + [2, 3]:
            for target in range(3):
                self.assert_path(False, EXAMPLE, 0, target, (command,))
                self.assert_path(False, EXAMPLE, 0, target, (0, command))
                self.assert_path(False, EXAMPLE, 0, target, (command, 1))
        self.assert_path(False, ALONE, 0, 0, (0,))

    def test_no_tuples(self):
        for sequence in NO_TUPLES:
            for target in range(4):
                self.assert_path(False, STILL, 2, target, sequence)


class AcceptsClosedTest(unittest.TestCase):

    def assert_closed(self, accepted, system, state, target, chosen):
        with self.subTest(system=system, state=state, target=target, chosen=chosen):
            self.assertIs(accepts_reach(system, state, target, ("closed", chosen)), accepted)

    def test_the_example(self):
        self.assert_closed(True, EXAMPLE, 0, 2, (0, 1))

    def test_it_may_have_states_that_are_not_reached(self):
        self.assert_closed(True, STILL, 0, 3, (0,))
        self.assert_closed(True, STILL, 0, 3, (0, 1))
        self.assert_closed(True, STILL, 1, 3, (0, 1, 2))
        self.assert_closed(True, LADDER, 6, 0, (4, 5, 6, 7))

    def test_it_does_not_have_the_target(self):
        self.assert_closed(False, STILL, 0, 1, (0, 1))
        self.assert_closed(False, STILL, 0, 3, (0, 1, 2, 3))
        self.assert_closed(False, STILL, 0, 0, (0,))

    def test_it_has_the_first_state(self):
        self.assert_closed(False, STILL, 0, 3, (1, 2))
        self.assert_closed(False, STILL, 0, 3, ())
        self.assert_closed(False, STILL, 0, 0, ())
        # The start is in it, but the state is not.
        self.assert_closed(False, PAIRS, 2, 3, (0, 1))

    def test_it_is_ascending(self):
        self.assert_closed(True, STILL, 0, 3, (0, 1, 2))
        for chosen in itertools.permutations((0, 1, 2)):
            if chosen != (0, 1, 2):
                self.assert_closed(False, STILL, 0, 3, chosen)
        self.assert_closed(False, EXAMPLE, 0, 2, (1, 0))

    def test_it_has_no_state_twice(self):
        self.assert_closed(False, STILL, 0, 3, (0, 0))
        self.assert_closed(False, STILL, 0, 3, (0, 1, 1))
        self.assert_closed(False, EXAMPLE, 0, 2, (0, 1, 1))
        self.assert_closed(False, EXAMPLE, 0, 2, (0, 0, 1))

    def test_it_is_closed(self):
        self.assert_closed(False, EXAMPLE, 0, 2, (0,))
        self.assert_closed(False, EXAMPLE, 1, 2, (1,))
        self.assert_closed(False, LADDER, 0, 7, (0, 1, 2, 3, 4, 5, 6))
        self.assert_closed(False, LADDER, 3, 0, (3, 4, 5, 6))
        # The first command leads to none outside, the last one does.
        self.assert_closed(False, (3, 0, ((0, 1, 2), (0, 1, 2), (0, 2, 2))), 0, 2, (0, 1))
        self.assert_closed(True, (3, 0, ((0, 1, 2), (0, 1, 2), (0, 2, 2))), 0, 2, (0,))

    def test_all_tuples_of_states(self):
        for system in mixed_systems(25) + [STILL, PAIRS, EXAMPLE, PLACE]:
            states = range(system[0])
            tuples = [chosen for many in range(system[0] + 1) for chosen in itertools.combinations(states, many)]
            closed = [chosen for chosen in tuples
                      if all(row[state] in chosen for row in system[2] for state in chosen)]
            for state, target in itertools.product(states, repeat=2):
                right = [chosen for chosen in closed if state in chosen and target not in chosen]
                accepted = [chosen for chosen in tuples if accepts_reach(system, state, target, ("closed", chosen))]
                with self.subTest(system=system, state=state, target=target):
                    self.assertEqual(accepted, right)
                    self.assertEqual(accepted == [], target in states_reached(system, state))

    def test_wrong_states(self):
        for state in NO_NUMBERS + [4, 5, 8]:
            self.assert_closed(False, STILL, 2, 3, (state, 2))
            self.assert_closed(False, STILL, 0, 3, (0, state))
            self.assert_closed(False, STILL, 0, 3, (state,))
            self.assert_closed(False, (4, 0, ()), 2, 3, (state, 2))
            self.assert_closed(False, (4, 0, ()), 0, 3, (0, state))
        self.assert_closed(False, EXAMPLE, 0, 2, (False, 1))
        self.assert_closed(False, EXAMPLE, 0, 2, (0, True))

    def test_no_tuples(self):
        for chosen in NO_TUPLES:
            self.assert_closed(False, STILL, 0, 3, chosen)
            self.assert_closed(False, EXAMPLE, 0, 2, chosen)


class OneWordTest(unittest.TestCase):

    def test_evidence_of_exactly_one_of_the_two_words_is_accepted(self):
        for system in small_systems() + mixed_systems(8):
            values = [("path", sequence) for sequence in sequences_by_length(system, 4)]
            for many in range(system[0] + 1):
                values += [("closed", chosen) for chosen in itertools.combinations(range(system[0]), many)]
            for state, target in itertools.product(range(system[0]), repeat=2):
                with self.subTest(system=system, state=state, target=target):
                    words = {value[0] for value in values if accepts_reach(system, state, target, value)}
                    words |= {reach_evidence(system, state, target)[0]}
                    self.assertEqual(words, {"path" if target in states_reached(system, state) else "closed"})

    def test_a_tuple_that_could_be_both_is_judged_by_its_word(self):
        self.assertIs(accepts_reach(STILL, 0, 0, ("path", (0, 1))), True)
        self.assertIs(accepts_reach(STILL, 0, 0, ("closed", (0, 1))), False)
        self.assertIs(accepts_reach(STILL, 0, 3, ("closed", (0, 1))), True)
        self.assertIs(accepts_reach(STILL, 0, 3, ("path", (0, 1))), False)

    def test_other_values(self):
        # Both words are followed by what would be accepted.
        for target, word, shown in ((0, "path", (0,)), (3, "closed", (0,))):
            self.assertIs(accepts_reach(STILL, 0, target, (word, shown)), True)
            wrong = NO_TUPLES + [
                (), (word,), (shown,), shown, (word, shown, ()), (word, shown, shown), (shown, word), [word, shown],
                ((word, shown),), (word, (shown,)), (word, word), ((word,), shown), ([word], shown), word, -1]
            for other in ("", "paths", "Path", "PATH", "close", "Closed", "p", None, True, False, 0, 1):
                wrong.append((other, shown))
            for value in wrong:
                with self.subTest(target=target, value=value):
                    self.assertIs(accepts_reach(STILL, 0, target, value), False)


class WrongArgumentTest(ArgumentCase):

    def assert_bad_pair(self, name, system, state, target):
        self.assert_bad(name, first_sequence, system, state, target)
        self.assert_bad(name, reach_evidence, system, state, target)
        for value in (("path", ()), ("closed", (0,)), None):
            self.assert_bad(name, accepts_reach, system, state, target, value)

    def test_system(self):
        for system in NO_SYSTEMS:
            self.assert_bad("system", reachable, system)
            self.assert_bad_pair("system", system, 0, 0)

    def test_state(self):
        for state in NO_NUMBERS + [3, 8]:
            self.assert_bad_pair("state", EXAMPLE, state, 0)

    def test_target(self):
        for target in NO_NUMBERS + [3, 8]:
            self.assert_bad_pair("target", EXAMPLE, 0, target)

    def test_the_first_wrong_argument_is_named(self):
        for system in NO_SYSTEMS:
            self.assert_bad_pair("system", system, 9, 0)
            self.assert_bad_pair("system", system, 0, 9)
            self.assert_bad_pair("system", system, None, True)
        for state in (None, True, -1, 3):
            for target in (None, False, -1, 3):
                self.assert_bad_pair("state", EXAMPLE, state, target)


class SameCallTest(unittest.TestCase):

    def told(self, system):
        return [reachable(system), first_sequence(system, 0, 1), reach_evidence(system, 1, 0),
                accepts_reach(system, 1, 0, ("path", (1,)))]

    def test_the_same_call_twice(self):
        first = [self.told(system) for system in (EXAMPLE, PLACE, WIDEST, STILL)]
        for _ in range(2):
            self.assertEqual([self.told(system) for system in (EXAMPLE, PLACE, WIDEST, STILL)], first)

    def test_true_does_not_pass_behind_the_integer_that_it_equals(self):
        self.assertEqual(first_sequence(EXAMPLE, 0, 1), (0,))
        with self.assertRaises(BadValue):
            first_sequence(EXAMPLE, False, 1)
        with self.assertRaises(BadValue):
            first_sequence(EXAMPLE, 0, True)
        self.assertIs(accepts_reach(EXAMPLE, 0, 1, ("path", (1,))), True)
        self.assertIs(accepts_reach(EXAMPLE, 0, 1, ("path", (True,))), False)

    def test_an_error_changes_nothing(self):
        for _ in range(2):
            with self.assertRaises(BadValue) as caught:
                reach_evidence(EXAMPLE, 0, 3)
            self.assertEqual(caught.exception.name, "target")
            caught.exception.name = "other"
            self.assertEqual(reach_evidence(EXAMPLE, 0, 2), ("closed", (0, 1)))

    def test_arguments_are_not_modified(self):
        chosen = [1, 0, 0]
        value = ["closed", chosen]
        self.assertIs(accepts_reach(EXAMPLE, 0, 2, value), False)
        self.assertIs(accepts_reach(EXAMPLE, 0, 2, ("closed", chosen)), False)
        self.assertIs(accepts_reach(EXAMPLE, 0, 2, ("path", chosen)), False)
        self.assertEqual((value, chosen), (["closed", [1, 0, 0]], [1, 0, 0]))

    def test_changing_a_returned_value_or_an_argument_afterwards_changes_nothing(self):
        chosen = [0, 1]
        self.assertIs(accepts_reach(EXAMPLE, 0, 2, ("closed", tuple(chosen))), True)
        chosen.clear()
        self.assertIs(accepts_reach(EXAMPLE, 0, 2, ("closed", (0, 1))), True)
        told = reach_evidence(EXAMPLE, 0, 2)
        told += (2,)
        found = reachable(EXAMPLE)
        found += (2,)
        self.assertEqual(reach_evidence(EXAMPLE, 0, 2), ("closed", (0, 1)))
        self.assertEqual(reachable(EXAMPLE), (0, 1))


class KeywordTest(unittest.TestCase):

    def test_arguments_by_their_names(self):
        self.assertEqual(reachable(system=EXAMPLE), (0, 1))
        self.assertEqual(first_sequence(system=EXAMPLE, state=2, target=1), (1, 0))
        self.assertEqual(reach_evidence(system=EXAMPLE, state=0, target=2), ("closed", (0, 1)))
        self.assertIs(accepts_reach(system=EXAMPLE, state=2, target=0, value=("path", (1, 0, 0))), True)


if __name__ == "__main__":
    unittest.main()
