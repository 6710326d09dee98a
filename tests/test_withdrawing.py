"""Points 2 to 8 and 88 to 97, and the interface of undobystate/withdrawing.py."""

import itertools
import unittest

from cases import ALL_MAPS, ALONE, CARDS, EXAMPLE, LADDER, NO_SYSTEMS, NO_TUPLES, PLACE, RING, SIX, STOP, WIDEST
from cases import ArgumentCase, chosen_in, keeps, mixed_systems, permutation_systems, regular_systems, small_systems
from undobystate.groups import group_evidence, is_regular, products
from undobystate.withdrawing import accepts_maximal, fewest, is_enough, maximal, maximal_evidence, system_with

# Each of the four commands goes with some of the others: 0 with 1, and 2 with 3.
PAIRS = (4, 0, ((1, 0, 3, 2), (3, 2, 1, 0), (1, 2, 3, 0), (3, 0, 1, 2)))

# The command 0 goes with 1, which goes with the others, too.
THREE = (4, 0, ((1, 0, 3, 2), (2, 3, 0, 1), (1, 2, 3, 0), (3, 0, 1, 2)))

# Only with the command 1 withdrawn 2 is not reachable, and the command 0 leads from 0 and 1 to different states.
FEWER = (3, 0, ((1, 0, 0), (2, 1, 0)))

# No two of these commands go together, so there are four maximal sets.
ALL_APART = (6, 0, ((1, 2, 3, 4, 5, 0), (1, 0, 2, 3, 4, 5), (0, 2, 1, 4, 3, 5), (2, 0, 1, 3, 4, 5)))

SYSTEMS = [EXAMPLE, PLACE, CARDS, LADDER, RING, ALONE, STOP, WIDEST, SIX, ALL_MAPS, PAIRS, THREE, FEWER, ALL_APART,
           (8, 3, ()), (1, 0, ((0,),) * 4)]
ALL = SYSTEMS + small_systems() + mixed_systems(80) + permutation_systems(80) + regular_systems()

# In the place of a set, for whatever system has a command.
NO_SETS = NO_TUPLES + [(True,), (False,), (None,), ("0",), ((0,),), ([0],), (-1,), (4,), (0, 4), (0, 0), (1, 0),
                       (0, True), (False, 1), [0], {0}, (0.0,), (0, 1, 2, 3, 4), (-1, 0)]


def sets_of(system):
    """Return the ascending list of all sets of commands of the system."""
    numbers = range(len(system[2]))
    return sorted(chosen for many in range(5) for chosen in itertools.combinations(numbers, many))


def only_with(system, chosen):
    """Return the system that has the commands of the set alone, by the words of point 88."""
    return (system[0], system[1], tuple(row for command, row in enumerate(system[2]) if command in chosen))


def enough(system, chosen):
    """Tell whether each action of a reachable state is revocable in the system with the set."""
    some = only_with(system, chosen)
    return all(keeps(some, state, command) for state in chosen_in(some) for command in range(len(some[2])))


def maximal_ones(system):
    """Return the ascending list of the sets that are enough, and no greater one of which is, whatever it has more."""
    found = [set(chosen) for chosen in sets_of(system) if enough(system, chosen)]
    return sorted(tuple(sorted(one)) for one in found if not any(one < other for other in found))


class SystemWithTest(ArgumentCase):

    def test_the_example(self):
        self.assertEqual(system_with(PLACE, (1,)), (3, 0, ((0, 2, 1),)))

    def test_all_sets(self):
        for system in ALL:
            for chosen in sets_of(system):
                with self.subTest(system=system, chosen=chosen):
                    self.assertEqual(system_with(system, chosen), only_with(system, chosen))

    def test_the_commands_are_numbered_anew(self):
        self.assertEqual(system_with(PAIRS, (1, 3)), (4, 0, ((3, 2, 1, 0), (3, 0, 1, 2))))
        self.assertEqual(system_with(PAIRS, ()), (4, 0, ()))
        self.assertEqual(system_with(PAIRS, (0, 1, 2, 3)), PAIRS)
        self.assertEqual(system_with(ALONE, ()), ALONE)


class EnoughTest(ArgumentCase):

    def test_the_examples(self):
        self.assertIs(is_enough(PLACE, (0,)), True)
        self.assertIs(is_enough(PLACE, (1,)), True)
        self.assertIs(is_enough(PLACE, (0, 1)), False)

    def test_the_empty_set_is(self):
        for system in ALL:
            self.assertIs(is_enough(system, ()), True)

    def test_all_sets(self):
        found = {True: 0, False: 0}
        for system in ALL:
            for chosen in sets_of(system):
                right = enough(system, chosen)
                found[right] += 1
                with self.subTest(system=system, chosen=chosen):
                    self.assertIs(is_enough(system, chosen), right)
        self.assertGreater(min(found.values()), 200)

    def test_with_a_set_each_part_of_it_is(self):
        for system in ALL:
            for one, other in itertools.product(sets_of(system), repeat=2):
                if set(one) <= set(other) and is_enough(system, other):
                    with self.subTest(system=system, one=one, other=other):
                        self.assertIs(is_enough(system, one), True)

    def test_fewer_states_can_be_reachable(self):
        self.assertIs(is_regular(FEWER), False)
        self.assertIs(is_enough(FEWER, (0,)), True)
        self.assertIs(is_enough((3, 2, FEWER[2]), (0,)), False)

    def test_a_command_alone_that_leads_from_different_states_to_different_ones(self):
        for system in ALL:
            for command, row in enumerate(system[2]):
                chosen = chosen_in(only_with(system, (command,)))
                with self.subTest(system=system, command=command):
                    right = len({row[state] for state in chosen}) == len(chosen)
                    self.assertIs(is_enough(system, (command,)), right)

    def test_all_commands_are_if_and_only_if_the_system_is_regular(self):
        for system in ALL:
            every = tuple(range(len(system[2])))
            with self.subTest(system=system):
                self.assertIs(is_enough(system, every), is_regular(system))
                self.assertIs(maximal(system) == [every], is_regular(system))


class MaximalTest(ArgumentCase):

    def test_the_examples(self):
        self.assertEqual(maximal(PLACE), [(0,), (1,)])
        self.assertEqual(maximal((2, 0, ((1, 1), (1, 0)))), [(1,)])

    def test_some_systems(self):
        self.assertEqual((maximal(PAIRS), maximal(THREE)), ([(0, 1), (2, 3)], [(0, 1), (1, 2, 3)]))
        self.assertEqual(maximal(ALL_APART), [(0,), (1,), (2,), (3,)])
        self.assertEqual(maximal(CARDS), [(0, 1)])
        self.assertEqual((maximal(LADDER), maximal(ALONE), maximal((8, 3, ()))), ([()], [()], [()]))
        self.assertEqual(maximal((2, 0, ((1, 1), (1, 0), (0, 1), (0, 0)))), [(1, 2), (2, 3)])

    def test_all_systems(self):
        numbers = set()
        for system in ALL:
            right = maximal_ones(system)
            numbers.add(len(right))
            with self.subTest(system=system):
                self.assertEqual(maximal(system), right)
                self.assertEqual(maximal(system), sorted(maximal(system)))
        self.assertEqual(numbers, {1, 2, 3, 4})

    def test_sets_are_compared_at_the_first_place_at_which_they_differ(self):
        self.assertEqual((maximal(THREE), maximal(FEWER)), ([(0, 1), (1, 2, 3)], [(0,), (1,)]))
        system = (4, 0, ((1, 0, 3, 2), (1, 2, 3, 0), (2, 3, 0, 1)))
        self.assertEqual(maximal(system), [(0, 2), (1, 2)])

    def test_a_new_list_with_each_call(self):
        told = maximal(PLACE)
        self.assertIs(type(told), list)
        told.clear()
        told.append("other")
        self.assertEqual(maximal(PLACE), [(0,), (1,)])
        self.assertEqual(fewest(PLACE), (1,))
        self.assertIsNot(maximal(PLACE), maximal(PLACE))
        self.assertEqual([type(chosen) for chosen in maximal(PLACE)], [tuple] * 2)


class FewestTest(ArgumentCase):

    def test_the_examples(self):
        self.assertEqual(fewest(PLACE), (1,))
        self.assertEqual(fewest((2, 0, ())), ())

    def test_some_systems(self):
        self.assertEqual((fewest(PAIRS), fewest(ALL_APART), fewest(CARDS)), ((2, 3), (1, 2, 3), ()))
        self.assertEqual(fewest(THREE), (0,))
        self.assertEqual((fewest(LADDER), fewest(ALONE), fewest(STOP)), ((0,), (), (0, 1)))

    def test_not_the_first_maximal_set_but_the_first_with_the_most_commands(self):
        found = 0
        for system in ALL:
            sets = maximal_ones(system)
            most = max(len(chosen) for chosen in sets)
            first = next(chosen for chosen in sets if len(chosen) == most)
            found += first != sets[0]
            with self.subTest(system=system):
                self.assertEqual(fewest(system), tuple(k for k in range(len(system[2])) if k not in first))
        self.assertGreater(found, 5)

    def test_no_fewer_can_be_withdrawn(self):
        for system in ALL:
            most = max(len(chosen) for chosen in sets_of(system) if enough(system, chosen))
            with self.subTest(system=system):
                self.assertEqual(len(fewest(system)), len(system[2]) - most)
                kept = tuple(k for k in range(len(system[2])) if k not in fewest(system))
                self.assertIs(is_enough(system, kept), True)


class EvidenceTest(ArgumentCase):

    def test_the_examples(self):
        self.assertEqual(maximal_evidence(PLACE, (0,)), (((0, 1), (1, 0)), (("refutation", 0, (0,), (0, 1)),)))
        self.assertIs(maximal_evidence(PLACE, ()), None)
        self.assertIs(maximal_evidence(PLACE, (0, 1)), None)

    def test_of_a_regular_system_there_are_no_refutations(self):
        for system in regular_systems():
            every = tuple(range(len(system[2])))
            with self.subTest(system=system):
                self.assertEqual(maximal_evidence(system, every), (products(system), ()))

    def test_all_sets(self):
        for system in ALL:
            right = maximal_ones(system)
            for chosen in sets_of(system):
                told = maximal_evidence(system, chosen)
                with self.subTest(system=system, chosen=chosen):
                    if chosen not in right:
                        self.assertIs(told, None)
                        continue
                    self.assertEqual(told, self.told_by_words(system, chosen))
                    self.assertIs(accepts_maximal(system, chosen, told), True)

    def told_by_words(self, system, chosen):
        others = [command for command in range(len(system[2])) if command not in chosen]
        refutations = tuple(group_evidence(only_with(system, (*chosen, command))) for command in others)
        return (products(only_with(system, chosen)), refutations)

    def test_the_other_commands_stand_in_ascending_order_and_in_the_numbers_of_their_system(self):
        rows, refutations = maximal_evidence(PAIRS, (2, 3))
        self.assertEqual(rows, products((4, 0, PAIRS[2][2:])))
        self.assertEqual(refutations, (group_evidence((4, 0, (PAIRS[2][0], *PAIRS[2][2:]))),
                                       group_evidence((4, 0, (PAIRS[2][1], *PAIRS[2][2:])))))
        # Each other command of the system is the command 1 beside the command 0 alone.
        system = (2, 0, ((0, 1), (1, 1), (1, 1), (1, 1)))
        rows, refutations = maximal_evidence(system, (0,))
        self.assertEqual([refutation[1] for refutation in refutations], [1, 1, 1])


class AcceptsMaximalTest(ArgumentCase):

    def test_the_examples(self):
        self.assertIs(accepts_maximal(PLACE, (0,), (((0, 1), (1, 0)), (("refutation", 0, (0,), (0, 1)),))), True)
        self.assertIs(accepts_maximal(PLACE, (), (((0,),), ())), False)

    def test_evidence_of_one_set_for_each_other_one(self):
        for system in SYSTEMS + mixed_systems(40) + permutation_systems(40):
            right = maximal_ones(system)
            for chosen, other in itertools.product(right, sets_of(system)):
                if chosen != other and other not in right:
                    with self.subTest(system=system, chosen=chosen, other=other):
                        self.assertIs(accepts_maximal(system, other, maximal_evidence(system, chosen)), False)

    def test_evidence_of_no_set_that_is_not_maximal(self):
        # All of what could be written: the rows of the set, and whatever evidence there is of each greater one.
        for system in ALL:
            right = maximal_ones(system)
            for chosen in sets_of(system):
                if chosen not in right and enough(system, chosen):
                    others = [command for command in range(len(system[2])) if command not in chosen]
                    rest = tuple(group_evidence(only_with(system, (*chosen, command))) for command in others)
                    with self.subTest(system=system, chosen=chosen):
                        rows = products(only_with(system, chosen))
                        self.assertIs(accepts_maximal(system, chosen, (rows, rest)), False)
                        self.assertIs(accepts_maximal(system, chosen, (rows, ())), False)

    def test_other_refutations_than_the_told_one(self):
        rows = ((0, 1), (1, 0))
        for refutation, right in [(("refutation", 0, (0,), (0, 1)), True), (("refutation", 0, (0, 1), (0,)), True),
                                  (("refutation", 0, (0, 1, 1), (0, 1)), True), (("refutation", 0, (0,), (0,)), False),
                                  (("refutation", 1, (0,), (0, 1)), False), (("refutation", 2, (0,), (0, 1)), False),
                                  (("refutation", 0, (0,), (0, 2)), False), (("rows", products(RING)), False),
                                  (None, False), ((0, (0,), (0, 1)), False)]:
            with self.subTest(refutation=refutation):
                self.assertIs(accepts_maximal(PLACE, (0,), (rows, (refutation,))), right)

    def test_refutations_of_64_commands_and_of_65(self):
        rows = ((0, 1), (1, 0))
        # The command 1, done twice, changes nothing.
        for one, other, right in ((1, 64, True), (63, 64, True), (65, 64, False), (63, 66, False), (65, 2, False)):
            refutation = ("refutation", 0, (1,) * (one - 1) + (0,), (1,) * (other - 2) + (0, 1))
            with self.subTest(one=one, other=other):
                self.assertIs(accepts_maximal(PLACE, (0,), (rows, (refutation,))), right)

    def test_rows_of_the_system_with_the_set_alone(self):
        refutation = ("refutation", 0, (0,), (0, 1))
        self.assertIs(accepts_maximal(PLACE, (1,), (((0,),), (refutation,))), True)
        self.assertIs(accepts_maximal(PLACE, (1,), (((0, 1), (1, 0)), (refutation,))), False)
        self.assertIs(accepts_maximal(PLACE, (0,), (((0,),), (refutation,))), False)
        self.assertIs(accepts_maximal(PLACE, (0,), (((0, 1), (0, 1)), (refutation,))), False)
        self.assertIs(accepts_maximal(PLACE, (0,), (((1, 0), (0, 1)), (refutation,))), False)

    def test_one_refutation_for_each_other_command_in_their_order(self):
        rows, (one, other) = maximal_evidence(PAIRS, (2, 3))
        self.assertIs(accepts_maximal(PAIRS, (2, 3), (rows, (one, other))), True)
        for refutations in ((), (one,), (other,), (one, other, one), [one, other], (one, None), (None, other)):
            with self.subTest(refutations=refutations):
                self.assertIs(accepts_maximal(PAIRS, (2, 3), (rows, refutations)), False)
        system = (3, 0, ((1, 2, 0), (1, 1, 2), (0, 0, 2)))
        rows, refutations = maximal_evidence(system, (0,))
        self.assertIs(accepts_maximal(system, (0,), (rows, refutations)), True)
        self.assertNotEqual(refutations[0], refutations[1])
        self.assertIs(accepts_maximal(system, (0,), (rows, refutations[::-1])), False)

    def test_values_of_other_kinds(self):
        for system, chosen in ((PLACE, (0,)), (PLACE, (1,)), (RING, (0,)), (ALONE, ()), (STOP, ()), (PAIRS, (0, 1))):
            self.assert_refused(lambda value: accepts_maximal(system, chosen, value), maximal_evidence(system, chosen))
        rows, refutations = maximal_evidence(PLACE, (0,))
        for value in NO_TUPLES + [(), (rows,), (refutations,), (refutations, rows), (rows, refutations, ()), rows,
                                  [rows, refutations], (("rows", rows), refutations), (rows, refutations[0])]:
            with self.subTest(value=value):
                self.assertIs(accepts_maximal(PLACE, (0,), value), False)


class WrongArgumentTest(ArgumentCase):

    def test_of_a_system_alone(self):
        for function in (maximal, fewest):
            self.assert_checked(function, (PLACE,), [("system", NO_SYSTEMS)])

    def test_of_a_system_and_a_set(self):
        for function in (system_with, is_enough, maximal_evidence):
            self.assert_checked(function, (PLACE, (0, 1)), [("system", NO_SYSTEMS), ("chosen", NO_SETS)])
            self.assert_bad("chosen", function, PLACE, (2,))
            self.assert_bad("chosen", function, PLACE, (0, 1, 2))
            self.assert_bad("chosen", function, ALONE, (0,))
        wrong = [("system", NO_SYSTEMS), ("chosen", NO_SETS)]
        self.assert_checked(accepts_maximal, (PLACE, (0, 1), None), wrong)
        self.assert_checked(accepts_maximal, (WIDEST, (0, 1, 2, 3), None), wrong)


class SameCallTest(unittest.TestCase):

    def told(self, system):
        sets = [(chosen, is_enough(system, chosen), maximal_evidence(system, chosen)) for chosen in sets_of(system)]
        return [maximal(system), fewest(system), sets]

    def test_the_same_call_twice(self):
        systems = (EXAMPLE, PLACE, CARDS, STOP, PAIRS)
        first = [self.told(system) for system in systems]
        self.assertEqual([self.told(system) for system in systems], first)

    def test_kinds_of_values(self):
        rows, refutations = maximal_evidence(PLACE, (0,))
        told = [system_with(PLACE, (0,)), system_with(PLACE, (0,))[2], fewest(PLACE), maximal_evidence(PLACE, (0,)),
                rows, *rows, refutations, *refutations]
        self.assertEqual({type(value) for value in told}, {tuple})

    def test_arguments_by_their_names(self):
        self.assertEqual(system_with(system=PLACE, chosen=(1,)), (3, 0, ((0, 2, 1),)))
        self.assertIs(is_enough(system=PLACE, chosen=(1,)), True)
        self.assertEqual((maximal(system=PLACE), fewest(system=PLACE)), ([(0,), (1,)], (1,)))
        told = maximal_evidence(system=PLACE, chosen=(1,))
        self.assertIs(accepts_maximal(system=PLACE, chosen=(1,), value=told), True)


if __name__ == "__main__":
    unittest.main()
