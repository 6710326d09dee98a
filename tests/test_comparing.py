"""Points 2 to 8 and 98 to 107, and the interface of undobystate/comparing.py."""

import itertools
import unittest

from cases import ALONE, CARDS, EXAMPLE, LADDER, NO_SYSTEMS, NO_TUPLES, PLACE, RING, STOP, WIDEST
from cases import ArgumentCase, chosen_in, keeps, mixed_systems, permutation_systems, place_after, regular_systems
from cases import renamed, sequences_by_length, shuffled, small_systems
from undobystate.actions import is_revocable
from undobystate.agreeing import one_to_one
from undobystate.comparing import accepts_map, accepts_split, are_alike, told_form, told_map, told_split
from undobystate.effects import effect_system
from undobystate.errors import NotPossible

RING_OF_SIX = (6, 0, ((1, 2, 3, 4, 5, 0),))
SHORT_LADDER = (3, 0, ((1, 2, 2),))

# The states that are not reachable stand between the others.
SCATTERED = (4, 2, ((0, 3, 1, 3),))

SYSTEMS = [EXAMPLE, PLACE, CARDS, LADDER, RING, ALONE, STOP, WIDEST, RING_OF_SIX, SHORT_LADDER, SCATTERED, (8, 3, ()),
           (1, 0, ((0,),) * 4), (1, 0, ((0,),)), (2, 1, ((1, 0),))]
ALL = SYSTEMS + small_systems() + mixed_systems(30) + permutation_systems(30) + regular_systems()


def pairs_of(systems):
    """Return the pairs of these systems that have as many commands, and are not both of many states, some of them."""
    pairs = [(one, other) for one, other in itertools.product(systems, repeat=2) if len(one[2]) == len(other[2])]
    return [pair for at, pair in enumerate(pairs) if at % 3 == 0 or pair[0][0] <= 2 or pair[0] == pair[1]]


PAIRS = pairs_of(SYSTEMS + small_systems()[::3] + mixed_systems(30) + permutation_systems(20))


def pairs_between(first, second):
    """Return the set of the pairs to which a sequence leads from the starts of both, found without sequences."""
    found = {(first[1], second[1])}
    while True:
        more = found | {(row[one], led[other]) for row, led in zip(first[2], second[2]) for one, other in found}
        if more == found:
            return found
        found = more


def map_between(first, second):
    """Return the map with None for all states that are not reachable, or None if there is no map."""
    found = pairs_between(first, second)
    items = dict(found)
    return None if len(items) < len(found) else tuple(items.get(state) for state in range(first[0]))


def is_map(first, second, value):
    """Tell whether the tuple of states and None is a map, by the words of point 98 alone."""
    if value[first[1]] != second[1]:
        return False
    for state in range(first[0]):
        for row, led in zip(first[2], second[2]):
            if value[state] is not None and (value[row[state]] is None or value[row[state]] != led[value[state]]):
                return False
    return True


def is_split(first, second, one, other):
    """Tell whether the sequences are a split, by the words of point 100 alone."""
    if place_after(first, first[1], one) != place_after(first, first[1], other):
        return False
    return place_after(second, second[1], one) != place_after(second, second[1], other)


def first_split(first, second, longest):
    """Return the first split with at most so many commands in a sequence, or None, by trying all sequences."""
    found = {}
    for sequence in sequences_by_length(first, longest):
        pair = (place_after(first, first[1], sequence), place_after(second, second[1], sequence))
        if pair not in found:
            for known, earlier in found.items():
                if known[0] == pair[0]:
                    return (earlier, sequence)
            found[pair] = sequence
    return None


def form_by_words(system):
    """Return the told form, by trying sequences."""
    order = []
    for sequence in sequences_by_length(system, 7):
        state = place_after(system, system[1], sequence)
        if state not in order:
            order.append(state)
        if len(order) == len(chosen_in(system)):
            break
    return (len(order), 0, tuple(tuple(order.index(row[state]) for state in order) for row in system[2]))


class ToldMapTest(ArgumentCase):

    def test_the_examples(self):
        self.assertEqual(told_map(CARDS, PLACE), (0, 1, 0, 2, 1, 2))
        self.assertIs(told_map(PLACE, CARDS), None)

    def test_some_systems(self):
        self.assertEqual(told_map(RING_OF_SIX, RING), (0, 1, 2, 0, 1, 2))
        self.assertIs(told_map(RING, RING_OF_SIX), None)
        self.assertEqual(told_map(LADDER, SHORT_LADDER), (0, 1, 2, 2, 2, 2, 2, 2))
        self.assertIs(told_map(SHORT_LADDER, LADDER), None)
        self.assertEqual(told_map(SCATTERED, SHORT_LADDER), (None, 1, 0, 2))
        self.assertEqual(told_map(SHORT_LADDER, SCATTERED), (2, 1, 3))
        self.assertEqual(told_map((8, 3, ()), (2, 1, ())), (None, None, None, 1, None, None, None, None))

    def test_all_pairs(self):
        found = 0
        for first, second in PAIRS:
            right = map_between(first, second)
            found += right is not None
            with self.subTest(first=first, second=second):
                self.assertEqual(told_map(first, second), right)
        self.assertGreater(min(found, len(PAIRS) - found), 100)

    def test_each_system_has_a_map_to_itself_and_to_the_system_with_one_state(self):
        for system in ALL:
            single = (1, 0, ((0,),) * len(system[2]))
            chosen = chosen_in(system)
            with self.subTest(system=system):
                right = tuple(state if state in chosen else None for state in range(system[0]))
                self.assertEqual(told_map(system, system), right)
                right = tuple(0 if state in chosen else None for state in range(system[0]))
                self.assertEqual(told_map(system, single), right)

    def test_two_maps_one_after_the_other_are_a_map(self):
        many = 0
        systems = [system for system in ALL if len(system[2]) == 1][:60]
        for first, second, third in itertools.product(systems[::2], systems[::3], systems[::2]):
            one, other = told_map(first, second), told_map(second, third)
            if one is not None and other is not None:
                many += 1
                with self.subTest(first=first, second=second, third=third):
                    both = tuple(None if item is None else other[item] for item in one)
                    self.assertEqual(told_map(first, third), both)
                    self.assertIs(accepts_map(first, third, both), True)
        self.assertGreater(many, 100)

    def test_the_items_are_just_the_reachable_states_of_the_other_system(self):
        for first, second in PAIRS:
            told = told_map(first, second)
            if told is not None:
                with self.subTest(first=first, second=second):
                    self.assertEqual(sorted({item for item in told if item is not None}), chosen_in(second))
                    self.assertEqual([k for k, item in enumerate(told) if item is not None], chosen_in(first))
                    self.assertLessEqual(set(one_to_one(first)), set(one_to_one(second)))

    def test_the_system_of_effects_has_a_map_to_its_system(self):
        wide, image = effect_system(PLACE)
        self.assertEqual(told_map(wide, PLACE), image)
        self.assertIs(told_map(PLACE, wide), None)
        self.assertEqual(told_split(PLACE, wide), ((), (1,)))


class AcceptsMapTest(ArgumentCase):

    def test_the_examples(self):
        self.assertIs(accepts_map(CARDS, PLACE, (0, 1, 0, 2, 1, 2)), True)
        self.assertIs(accepts_map(CARDS, PLACE, (0, 1, 0, 2, 1, None)), False)

    def test_the_told_map_is_accepted(self):
        for first, second in PAIRS:
            told = told_map(first, second)
            with self.subTest(first=first, second=second):
                self.assertIs(accepts_map(first, second, told), told is not None)

    def test_all_tables_between_small_systems(self):
        found = {True: 0, False: 0}
        systems = small_systems()[::4] + [RING, SHORT_LADDER, EXAMPLE, (3, 1, ((0, 2, 1),)), (3, 2, ((2, 1, 0),))]
        for first, second in pairs_of(systems):
            for value in itertools.product([None, *range(second[0])], repeat=first[0]):
                right = is_map(first, second, value)
                found[right] += 1
                with self.subTest(first=first, second=second, value=value):
                    self.assertIs(accepts_map(first, second, value), right)
        self.assertGreater(min(found.values()), 50)

    def test_entries_where_the_told_map_has_none(self):
        first = (5, 0, ((1, 0, 3, 2, 0),))
        second = (4, 0, ((1, 0, 3, 2),))
        self.assertEqual(told_map(first, second), (0, 1, None, None, None))
        for rest, right in [((None, None, None), True), ((2, 3, None), True), ((3, 2, 1), True), ((0, 1, 1), True),
                            ((2, 3, 0), False), ((2, None, None), False), ((None, 3, 1), False), ((2, 2, 1), False)]:
            with self.subTest(rest=rest):
                self.assertIs(accepts_map(first, second, (0, 1) + rest), right)

    def test_two_maps_have_the_same_items_for_the_reachable_states(self):
        wider = (5, 0, ((1, 0, 3, 2, 0),))
        for first, second in [(EXAMPLE, EXAMPLE), (wider, (2, 1, ((1, 0),))), (SCATTERED, SHORT_LADDER)]:
            maps = [value for value in itertools.product([None, *range(second[0])], repeat=first[0])
                    if accepts_map(first, second, value)]
            self.assertGreater(len(maps), 1)
            for at in chosen_in(first):
                self.assertEqual({value[at] for value in maps}, {told_map(first, second)[at]})

    def test_never_a_map_and_a_split(self):
        for first, second in PAIRS:
            split = told_split(first, second)
            with self.subTest(first=first, second=second):
                self.assertIs(split is None, told_map(first, second) is not None)
                self.assertIs(split is not None and accepts_split(first, second, split), split is not None)

    def test_values_of_other_kinds(self):
        for first, second in [(CARDS, PLACE), (PLACE, PLACE), (RING_OF_SIX, RING), (ALONE, ALONE)]:
            # Where a state stands no map of them has None.
            self.assert_refused(lambda value: accepts_map(first, second, value), told_map(first, second))
        for value in NO_TUPLES + [(), (0,), (0, 1), (0, 1, 2, 0), (False, True, 2), (0, 1, 3), (0, 1, -1), [0, 1, 2],
                                  ((0, 1, 2),), (None, None, None), (0, 1, "2"), (0, 1, (2,)), (0, 1, 2.0)]:
            with self.subTest(value=value):
                self.assertIs(accepts_map(PLACE, PLACE, value), False)
        # The states are those of the second system.
        self.assertIs(accepts_map((2, 0, ()), (3, 2, ()), (2, 1)), True)
        self.assertIs(accepts_map((3, 2, ()), (2, 0, ()), (1, 1, 0)), True)
        self.assertIs(accepts_map((3, 2, ()), (2, 0, ()), (2, 1, 0)), False)


class SplitTest(ArgumentCase):

    def test_the_examples(self):
        self.assertEqual(told_split(PLACE, CARDS), ((), (1,)))
        self.assertIs(told_split(CARDS, PLACE), None)
        self.assertIs(accepts_split(PLACE, CARDS, ((), (0, 0, 1))), True)

    def test_some_systems(self):
        self.assertEqual(told_split(RING, RING_OF_SIX), ((), (0, 0, 0)))
        self.assertEqual(told_split(SHORT_LADDER, LADDER), ((0, 0), (0, 0, 0)))
        self.assertEqual(told_split(RING, (2, 0, ((1, 0),))), ((), (0, 0, 0)))

    def test_all_pairs(self):
        found = 0
        for first, second in PAIRS:
            longest = (0, 64, 7, 5, 4)[len(first[2])]
            right = first_split(first, second, longest)
            with self.subTest(first=first, second=second):
                told = told_split(first, second)
                self.assertIs(told is None, map_between(first, second) is not None)
                if told is not None:
                    self.assertIs(is_split(first, second, *told), True)
                if told is not None and max(len(told[0]), len(told[1])) <= longest:
                    found += 1
                    self.assertEqual(told, right)
        self.assertGreater(found, 100)

    def test_rings_of_seven_and_of_eight_states(self):
        one, other = (7, 0, ((1, 2, 3, 4, 5, 6, 0),)), (8, 0, ((1, 2, 3, 4, 5, 6, 7, 0),))
        self.assertEqual(told_split(one, other), ((), (0,) * 7))
        self.assertEqual(told_split(other, one), ((), (0,) * 8))

    def test_all_short_sequences(self):
        found = {True: 0, False: 0}
        for first, second in pairs_of(SYSTEMS + small_systems()[::5]):
            for one, other in itertools.product(list(sequences_by_length(first, 3))[:9], repeat=2):
                right = is_split(first, second, one, other)
                found[right] += 1
                with self.subTest(first=first, second=second, split=(one, other)):
                    self.assertIs(accepts_split(first, second, (one, other)), right)
        self.assertGreater(min(found.values()), 200)

    def test_sequences_of_64_commands_and_of_65(self):
        for one, other, right in [(61, 64, True), (64, 61, True), (62, 65, False), (65, 62, False), (63, 60, True),
                                  (64, 64, False), (3, 66, False), (1, 64, True), (61, 100, False)]:
            with self.subTest(one=one, other=other):
                self.assertIs(accepts_split(RING, RING_OF_SIX, ((0,) * one, (0,) * other)), right)

    def test_values_of_other_kinds(self):
        for value in (((), (1,)), ((), (0, 0, 1)), ((1,), ())):
            self.assert_refused(lambda other: accepts_split(PLACE, CARDS, other), value)
        for value in NO_TUPLES + [(), ((),), ((), (1,), ()), ((), (True,)), ((), [1]), [(), (1,)], ((), (2,)),
                                  ((), (-1,)), ((), (None,)), ((), 1), (None, (1,)), ("", (1,)), ((), ((1,),))]:
            with self.subTest(value=value):
                self.assertIs(accepts_split(PLACE, CARDS, value), False)
        self.assertIs(accepts_split(ALONE, (2, 1, ()), ((), ())), False)


class FormTest(ArgumentCase):

    def test_the_examples(self):
        self.assertEqual(told_form(SCATTERED), (3, 0, ((1, 2, 2),)))
        self.assertIs(are_alike(SCATTERED, (3, 0, ((1, 2, 2),))), True)
        self.assertIs(are_alike(PLACE, CARDS), False)

    def test_some_forms(self):
        self.assertEqual(told_form(EXAMPLE), (2, 0, ((1, 0), (1, 1))))
        self.assertEqual(told_form(CARDS), CARDS)
        self.assertEqual(told_form((8, 3, ())), ALONE)
        self.assertEqual(told_form((3, 1, ((2, 0, 1), (0, 1, 2)))), (3, 0, ((1, 2, 0), (0, 1, 2))))
        # The command 0 leads to 2, and the command 1 to 1.
        self.assertEqual(told_form((3, 0, ((2, 1, 2), (1, 1, 0)))), (3, 0, ((1, 1, 2), (2, 0, 2))))

    def test_all_forms(self):
        for system in ALL:
            with self.subTest(system=system):
                form = told_form(system)
                self.assertEqual(form, form_by_words(system))
                self.assertEqual(told_form(form), form)
                self.assertIs(are_alike(system, form), True)
                self.assertEqual(chosen_in(form), list(range(form[0])))

    def test_the_form_is_the_same_whatever_the_states_are_called(self):
        for number, system in enumerate(ALL):
            other = renamed(system, shuffled(system[0], number))
            with self.subTest(system=system, other=other):
                self.assertEqual(told_form(other), told_form(system))
                self.assertIs(are_alike(system, other), True)

    def test_alike_is_a_map_there_and_one_back(self):
        found = 0
        for first, second in PAIRS:
            there, back = told_map(first, second), told_map(second, first)
            right = map_between(first, second) is not None and map_between(second, first) is not None
            found += right
            with self.subTest(first=first, second=second):
                self.assertIs(are_alike(first, second), right)
                self.assertIs(told_form(first) == told_form(second), right)
                if right:
                    self.assertEqual([back[there[state]] for state in chosen_in(first)], chosen_in(first))
                    self.assertEqual(len({there[state] for state in chosen_in(first)}), len(chosen_in(first)))
        self.assertGreater(min(found, len(PAIRS) - found), 100)

    def test_a_map_one_way_is_not_enough(self):
        for first, second in [(CARDS, PLACE), (PLACE, CARDS), (LADDER, SHORT_LADDER), (SHORT_LADDER, LADDER)]:
            self.assertIs(are_alike(first, second), False)

    def test_the_same_actions_are_revocable(self):
        for system in ALL:
            form = told_form(system)
            names = told_map(system, form)
            for state in chosen_in(system):
                for command in range(len(system[2])):
                    with self.subTest(system=system, state=state, command=command):
                        right = keeps(system, state, command)
                        self.assertIs(is_revocable(form, names[state], command), right)


class WrongArgumentTest(ArgumentCase):

    def test_of_two_systems(self):
        wrong = [("first", NO_SYSTEMS), ("second", NO_SYSTEMS)]
        for function in (told_map, told_split, are_alike):
            self.assert_checked(function, (PLACE, CARDS), wrong)
        for judge in (accepts_map, accepts_split):
            self.assert_checked(judge, (PLACE, CARDS, None), wrong)

    def test_of_a_system_alone(self):
        self.assert_checked(told_form, (PLACE,), [("system", NO_SYSTEMS)])

    def assert_not_as_many(self, function, *arguments):
        with self.subTest(function=function.__name__, arguments=arguments):
            with self.assertRaises(NotPossible) as caught:
                function(*arguments)
            self.assertEqual(caught.exception.why, "commands")

    def test_not_as_many_commands(self):
        for first, second in [(PLACE, RING), (RING, PLACE), (ALONE, RING), (RING, ALONE), (WIDEST, PLACE),
                              (PLACE, (3, 0, PLACE[2] + PLACE[2][:1]))]:
            for function in (told_map, told_split, are_alike):
                self.assert_not_as_many(function, first, second)
            for judge in (accepts_map, accepts_split):
                for value in (None, 0, [], (0, 1, 2), ((), (0,))):
                    self.assert_not_as_many(judge, first, second, value)

    def test_wrong_systems_come_first(self):
        for function in (told_map, told_split, are_alike):
            self.assert_bad("first", function, (9, 0, ()), RING)
            self.assert_bad("first", function, list(PLACE), (9, 0, ()))
            self.assert_bad("second", function, PLACE, (9, 0, ()))
            self.assert_bad("second", function, PLACE, list(RING))


class SameCallTest(unittest.TestCase):

    def told(self, first, second):
        return [told_map(first, second), told_split(first, second), are_alike(first, second), told_form(first)]

    def test_the_same_call_twice(self):
        pairs = [(CARDS, PLACE), (PLACE, CARDS), (EXAMPLE, PLACE), (RING, RING_OF_SIX), (SCATTERED, SHORT_LADDER)]
        first = [self.told(*pair) for pair in pairs]
        self.assertEqual([self.told(*pair) for pair in pairs], first)

    def test_kinds_of_values(self):
        form = told_form(SCATTERED)
        told = [told_map(CARDS, PLACE), told_split(PLACE, CARDS), *told_split(PLACE, CARDS), form, form[2], *form[2]]
        self.assertEqual([type(value) for value in told], [tuple] * 7)
        self.assertEqual({type(item) for item in told_map(CARDS, PLACE)}, {int})

    def test_an_error_changes_nothing(self):
        for _ in range(2):
            with self.assertRaises(NotPossible):
                told_map(PLACE, RING)
            self.assertEqual(told_map(CARDS, PLACE), (0, 1, 0, 2, 1, 2))

    def test_arguments_by_their_names(self):
        self.assertEqual(told_map(first=RING_OF_SIX, second=RING), (0, 1, 2, 0, 1, 2))
        self.assertIs(accepts_map(first=RING_OF_SIX, second=RING, value=(0, 1, 2, 0, 1, 2)), True)
        self.assertEqual(told_split(first=RING, second=RING_OF_SIX), ((), (0, 0, 0)))
        self.assertIs(accepts_split(first=RING, second=RING_OF_SIX, value=((), (0, 0, 0))), True)
        self.assertIs(are_alike(first=RING, second=RING), True)
        self.assertEqual(told_form(system=RING), RING)


if __name__ == "__main__":
    unittest.main()
