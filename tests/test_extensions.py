"""Points 2 to 8 and 77 to 87, and the interface of undobystate/extensions.py."""

import itertools
import unittest

from cases import ALL_MAPS, ALONE, CARDS, EXAMPLE, FIVE, LADDER, MORE, NO_SYSTEMS, NO_TUPLES, PLACE, RING, SIX, STOP
from cases import WIDEST, ArgumentCase, chosen_in, effect_of, effects_reached, keeps, mixed_systems
from cases import permutation_systems, place_after, regular_systems, sequences_by_length, small_systems
from undobystate.effects import effect_system, first_sequences
from undobystate.errors import TooLarge
from undobystate.extensions import accepts_apart, accepts_extension, accepts_remembering, least_states
from undobystate.extensions import remembering_evidence

# 168 permutations of seven states.
SEVEN = (7, 0, ((1, 2, 3, 4, 5, 6, 0), (0, 1, 3, 2, 6, 5, 4)))

# As FIVE, and a command that leads from all states to one further state, which stays: 121 effects.
FIVE_AND_END = (6, 0, ((1, 2, 3, 4, 0, 5), (1, 0, 2, 3, 4, 5), (5,) * 6))

# The command merges 0 and 1, which is not reachable.
APART = (3, 0, ((2, 2, 0),))

SYSTEMS = [EXAMPLE, PLACE, CARDS, LADDER, RING, ALONE, STOP, FIVE, WIDEST, APART, (8, 3, ()), (1, 0, ((0,),) * 4)]
LARGE = [SIX, SEVEN, MORE, ALL_MAPS, FIVE_AND_END]
ALL = SYSTEMS + LARGE + small_systems() + mixed_systems(60) + permutation_systems(100) + regular_systems()


def merges(system):
    """Return the list of the commands that lead from two reachable states to the same one."""
    chosen = chosen_in(system)
    return [command for command, row in enumerate(system[2]) if len({row[state] for state in chosen}) < len(chosen)]


def effects_told(system):
    """Return the number of the effects, or None if there are more than 120."""
    told = effects_reached(system, 120)
    return None if told is None else len(told)


def remembers(system, wide, image):
    """Tell whether the wide system with the image is an extension, by the words of point 79 alone."""
    if image[wide[1]] != system[1]:
        return False
    pairs = list(zip(system[2], wide[2]))
    return all(image[moved[state]] == row[image[state]] for row, moved in pairs for state in chosen_in(wide))


def all_keep(system):
    """Tell whether each action of a reachable state is revocable."""
    return all(keeps(system, state, command) for state in chosen_in(system) for command in range(len(system[2])))


def is_merge(system, command, one, other):
    """Tell whether the command and the sequences are a merge, by the words of point 82 alone."""
    first, second = place_after(system, system[1], one), place_after(system, system[1], other)
    return first != second and system[2][command][first] == system[2][command][second]


def ring_over(system, states):
    """Return the ring of so many states, and the image that goes around the states of a ring again and again."""
    row = tuple((state + 1) % states for state in range(states))
    return ((states, 0, (row,)), tuple(state % system[0] for state in range(states)))


def with_other_items(items, values):
    """Return the tuples that differ from these items in one place, where one of the values stands."""
    places = [(at, value) for at in range(len(items)) for value in values if value != items[at]]
    return [items[:at] + (value,) + items[at + 1:] for at, value in places]


class LeastStatesTest(ArgumentCase):

    def assert_too_large(self, function, system):
        with self.subTest(function=function.__name__, system=system):
            with self.assertRaises(TooLarge) as caught:
                function(system)
            self.assertEqual(caught.exception.what, "effects")

    def test_the_examples(self):
        self.assertEqual(least_states(PLACE), 6)
        self.assertIs(least_states(STOP), None)

    def test_some_systems(self):
        self.assertEqual([least_states(system) for system in (CARDS, RING, ALONE, (8, 3, ()), FIVE)], [6, 3, 1, 1, 120])
        self.assertEqual([least_states(system) for system in (LADDER, EXAMPLE, WIDEST)], [None] * 3)

    def test_states_that_are_not_reachable_may_be_merged(self):
        self.assertEqual(least_states(APART), 2)
        self.assertIs(least_states((3, 1, APART[2])), None)
        self.assertEqual(least_states((3, 1, ((2, 2, 1),))), 2)
        self.assertIs(least_states((3, 0, ((2, 2, 1),))), None)

    def test_all_systems(self):
        found = {"none": 0, "large": 0, "told": 0}
        for system in ALL:
            if merges(system):
                found["none"] += 1
                with self.subTest(system=system):
                    self.assertIs(least_states(system), None)
            elif effects_told(system) is None:
                found["large"] += 1
                self.assert_too_large(least_states, system)
                self.assert_too_large(remembering_evidence, system)
            else:
                found["told"] += 1
                with self.subTest(system=system):
                    self.assertEqual(least_states(system), effects_told(system))
        self.assertGreater(min(found.values()), 10)

    def test_more_than_120_effects(self):
        self.assertEqual(len(effects_reached(SEVEN, 168)), 168)
        self.assertEqual(len(effects_reached(FIVE_AND_END, 121)), 121)
        for system in (SIX, SEVEN):
            for function in (least_states, remembering_evidence):
                self.assert_too_large(function, system)
        # They merge, so the effects need not be counted.
        for system in (MORE, ALL_MAPS, FIVE_AND_END):
            self.assertIs(least_states(system), None)
            self.assertEqual(remembering_evidence(system)[0], "merge")

    def test_as_many_as_reachable_states_if_all_their_actions_are_revocable(self):
        for system in regular_systems():
            with self.subTest(system=system):
                self.assertEqual(least_states(system), len(chosen_in(system)))

    def test_a_command_more_can_only_need_more(self):
        for system in permutation_systems(80):
            if effects_told(system) is not None:
                for many in range(len(system[2])):
                    fewer = (*system[:2], system[2][:many])
                    with self.subTest(system=system, many=many):
                        self.assertLessEqual(least_states(fewer), least_states(system))

    def test_wrong_arguments_come_first(self):
        for function in (least_states, remembering_evidence):
            self.assert_bad("system", function, list(SIX))
            self.assert_bad("system", function, (*SIX[:2], list(SIX[2])))
            self.assert_bad("system", function, (9, 0, (tuple(range(1, 9)) + (0,), (1, 0, *range(2, 9)))))


class ExtensionTest(ArgumentCase):

    def test_the_examples(self):
        self.assertIs(accepts_extension(PLACE, effect_system(PLACE)), True)
        self.assertIs(accepts_extension(PLACE, (PLACE, (0, 1, 2))), True)

    def test_the_system_of_effects_is_one(self):
        for system in ALL:
            if effects_told(system) is not None:
                with self.subTest(system=system):
                    self.assertIs(accepts_extension(system, effect_system(system)), True)

    def test_each_system_is_one_of_itself(self):
        for system in ALL:
            with self.subTest(system=system):
                self.assertIs(accepts_extension(system, (system, tuple(range(system[0])))), True)

    def test_each_system_is_one_of_a_single_state(self):
        for system in ALL:
            single = (1, 0, ((0,),) * len(system[2]))
            with self.subTest(system=system):
                self.assertIs(accepts_extension(single, (system, (0,) * system[0])), True)
                self.assertIs(accepts_extension(system, (single, (system[1],))), len(chosen_in(system)) == 1)

    def test_with_one_item_changed(self):
        found = {True: 0, False: 0}
        for system in [EXAMPLE, PLACE, RING, APART, STOP, LADDER] + small_systems()[:40]:
            for wide, image in (effect_system(system), (system, tuple(range(system[0])))):
                changed = [(wide, other) for other in with_other_items(image, range(system[0]))]
                changed += [((wide[0], start, wide[2]), image) for start in range(wide[0])]
                for at, row in enumerate(wide[2]):
                    for other in with_other_items(row, range(wide[0])):
                        changed.append(((*wide[:2], wide[2][:at] + (other,) + wide[2][at + 1:]), image))
                for value in changed:
                    right = remembers(system, *value)
                    found[right] += 1
                    with self.subTest(system=system, value=value):
                        self.assertIs(accepts_extension(system, value), right)
        self.assertGreater(min(found.values()), 60)

    def test_of_states_that_are_not_reachable_nothing_is_asked(self):
        wide = (5, 3, ((0, 2, 1, 4, 3),))
        self.assertIs(accepts_extension((2, 0, ((1, 0),)), (wide, (0, 0, 0, 0, 1))), True)
        self.assertIs(accepts_extension((2, 0, ((1, 0),)), (wide, (1, 1, 0, 0, 1))), True)
        # But each has an image that is a state.
        for other in (2, -1, None, True, False, "0"):
            self.assertIs(accepts_extension((2, 0, ((1, 0),)), (wide, (other, 0, 0, 0, 1))), False)

    def test_as_many_commands(self):
        self.assertIs(accepts_extension(PLACE, ((*PLACE[:2], PLACE[2][:1]), (0, 1, 2))), False)
        self.assertIs(accepts_extension(PLACE, ((*PLACE[:2], PLACE[2] + PLACE[2][:1]), (0, 1, 2))), False)
        self.assertIs(accepts_extension(PLACE, ((*PLACE[:2], ()), (0, 1, 2))), False)
        self.assertIs(accepts_extension((3, 0, ()), (PLACE, (0, 1, 2))), False)
        self.assertIs(accepts_extension(ALONE, ((7, 3, ()), (0,) * 7)), True)
        self.assertIs(accepts_extension((1, 0, ((0,),) * 4), ((1, 0, ((0,),) * 5), (0,))), False)

    def test_commands_stand_in_their_order(self):
        self.assertIs(accepts_extension(PLACE, ((*PLACE[:2], PLACE[2][::-1]), (0, 1, 2))), False)
        self.assertIs(accepts_extension((2, 0, ((1, 0), (0, 1))), ((2, 0, ((1, 0), (0, 1))), (0, 1))), True)
        self.assertIs(accepts_extension((2, 0, ((1, 0), (0, 1))), ((2, 0, ((0, 1), (1, 0))), (0, 1))), False)

    def test_120_states_and_121(self):
        for states in (3, 9, 117, 120):
            self.assertIs(accepts_extension(RING, ring_over(RING, states)), True)
        for states in (123, 126, 300):
            self.assertIs(accepts_extension(RING, ring_over(RING, states)), False)
        # The last state is not reachable.
        for states, right in ((118, True), (120, True), (121, False), (122, False)):
            rest = states - 3
            wide = (states, 0, ((1, 2, 0) + (states - 1,) * rest,))
            self.assertIs(accepts_extension(RING, (wide, (0, 1, 2) + (0,) * rest)), right)
        self.assertIs(accepts_extension(ALONE, ((120, 119, ()), (0,) * 120)), True)
        self.assertIs(accepts_extension(ALONE, ((121, 119, ()), (0,) * 121)), False)
        self.assertIs(accepts_extension(ALONE, ((0, 0, ()), ())), False)

    def test_the_image_has_an_item_for_each_state(self):
        wide, image = effect_system(PLACE)
        for other in (image[:-1], image + (0,), (), image + image):
            self.assertIs(accepts_extension(PLACE, (wide, other)), False)

    def test_values_of_other_kinds(self):
        for system in (PLACE, EXAMPLE, RING, ALONE, (2, 1, ((1, 0),) * 3)):
            self.assert_refused(lambda value: accepts_extension(system, value), effect_system(system))
        for value in NO_SYSTEMS:
            self.assertIs(accepts_extension(ALONE, value), False)
            self.assertIs(accepts_extension((2, 0, ((0, 1),)), (value, (0, 0))), False)
        wide, image = effect_system(PLACE)
        for value in ((), (wide,), (wide, image, image), (image, wide), [wide, image], (list(wide), image)):
            self.assertIs(accepts_extension(PLACE, value), False)
        self.assertIs(accepts_extension(PLACE, (wide, list(image))), False)
        self.assertIs(accepts_extension(PLACE, (wide, (False, True, 0, 2, 1, 2))), False)


class ApartTest(ArgumentCase):

    def test_the_examples(self):
        self.assertIs(accepts_apart(PLACE, ((), (0,), (1,))), True)
        self.assertIs(accepts_apart(PLACE, ((), (0, 0))), False)

    def test_one_sequence_and_none(self):
        for system in SYSTEMS:
            self.assertIs(accepts_apart(system, ((),)), True)
            self.assertIs(accepts_apart(system, ()), False)
            self.assertIs(accepts_apart(system, ((), ())), False)

    def test_all_short_sequences(self):
        found = {True: 0, False: 0}
        for system in SYSTEMS + LARGE + small_systems() + mixed_systems(40):
            sequences = list(sequences_by_length(system, 3))[:9]
            for many in (2, 3):
                for chosen in itertools.permutations(sequences[::2], many):
                    right = len({effect_of(system, sequence) for sequence in chosen}) == many
                    found[right] += 1
                    with self.subTest(system=system, chosen=chosen):
                        self.assertIs(accepts_apart(system, chosen), right)
        self.assertGreater(min(found.values()), 100)

    def test_from_each_reachable_state_and_from_no_other_one(self):
        # They lead from the start to the same state, and from the other one to different ones.
        self.assertIs(accepts_apart(PLACE, ((), (1,))), True)
        # Only from a state that is not reachable they lead to different ones.
        self.assertIs(accepts_apart((3, 0, ((0, 2, 1),)), ((), (0,))), False)
        self.assertIs(accepts_apart((3, 1, ((0, 2, 1),)), ((), (0,))), True)

    def test_the_first_sequences_are_apart(self):
        for system in ALL:
            if effects_told(system) is not None:
                told = first_sequences(system)
                short = tuple(sequence for sequence in told if len(sequence) <= 16)
                with self.subTest(system=system):
                    self.assertIs(accepts_apart(system, short), True)
                    self.assertIs(accepts_apart(system, short[::-1]), True)
                    self.assertIs(accepts_apart(system, tuple(told)), len(short) == len(told))

    def test_120_sequences_and_121(self):
        told = effects_reached(FIVE_AND_END, 121)
        self.assertEqual((len(told), max(len(sequence) for sequence in told) <= 16), (121, True))
        self.assertEqual(len({effect_of(FIVE_AND_END, sequence) for sequence in told}), 121)
        self.assertIs(accepts_apart(FIVE_AND_END, tuple(told)), False)
        for at in range(121):
            self.assertIs(accepts_apart(FIVE_AND_END, tuple(told[:at] + told[at + 1:])), True)
        self.assertIs(accepts_apart(FIVE_AND_END, tuple(told[:119] + told[:1])), False)
        first = tuple(first_sequences(FIVE))
        self.assertIs(accepts_apart(FIVE, first), True)
        self.assertIs(accepts_apart(FIVE, first[:119] + ((0, 0, 0, 0, 0, 0),)), False)

    def test_16_commands_and_17(self):
        ladder = (8, 0, ((1, 2, 3, 4, 5, 6, 7, 0),))
        self.assertIs(accepts_apart(ladder, ((0,) * 16, (0,) * 15)), True)
        self.assertIs(accepts_apart(ladder, ((0,) * 16, (0,) * 8)), False)
        self.assertIs(accepts_apart(ladder, ((0,) * 17, (0,) * 15)), False)
        self.assertIs(accepts_apart(ladder, ((0,) * 15, (0,) * 17)), False)

    def test_not_more_than_reachable_states_of_a_good_extension(self):
        for system in permutation_systems(60):
            if effects_told(system) is not None:
                apart = tuple(sequence for sequence in first_sequences(system) if len(sequence) <= 16)
                self.assertLessEqual(len(apart), least_states(system))

    def test_values_of_other_kinds(self):
        for value in [((), (0,), (1,)), ((0, 1, 0),), ((1, 1), (0, 0, 1))]:
            self.assert_refused(lambda other: accepts_apart(PLACE, other), value)
        for value in NO_TUPLES + [(0,), (0, 1), (None,), ("",), ([],), ([0],), ((), None), ((), [0]), ((True,),),
                                  ((False,),), ((-1,),), ((2,),), ((), (0, 2)), [(), (0,)], ((), ((),))]:
            with self.subTest(value=value):
                self.assertIs(accepts_apart(PLACE, value), False)
        self.assertIs(accepts_apart(ALONE, ((0,),)), False)


class RememberingEvidenceTest(ArgumentCase):

    def test_the_example(self):
        self.assertEqual(remembering_evidence(PLACE), ("extension", effect_system(PLACE)))

    def test_it_is_accepted(self):
        words = {"merge": 0, "extension": 0}
        for system in ALL:
            if not merges(system) and effects_told(system) is None:
                continue
            word, told = remembering_evidence(system)
            words[word] += 1
            with self.subTest(system=system):
                self.assertEqual(word, "merge" if merges(system) else "extension")
                self.assertIs(accepts_remembering(system, (word, told)), True)
                if word == "merge":
                    self.assertIs(is_merge(system, *told), True)
                    self.assertLessEqual(max(len(told[1]), len(told[2])), 16)
                else:
                    self.assertEqual(told, effect_system(system))
        self.assertGreater(min(words.values()), 40)

    def test_the_system_of_effects_is_good(self):
        for system in ALL:
            if not merges(system) and (effects_told(system) or 200) <= 24:
                with self.subTest(system=system):
                    self.assertTrue(all_keep(effect_system(system)[0]))

    def test_a_start_that_no_command_leads_to(self):
        system = (4, 3, ((1, 0, 1, 2), (0, 1, 2, 0)))
        word, (command, one, other) = remembering_evidence(system)
        self.assertEqual(word, "merge")
        self.assertIs(is_merge(system, command, one, other), True)


class AcceptsRememberingTest(ArgumentCase):

    def test_the_examples(self):
        self.assertIs(accepts_remembering(PLACE, ("extension", effect_system(PLACE))), True)
        self.assertIs(accepts_remembering(PLACE, ("extension", (PLACE, (0, 1, 2)))), False)
        self.assertIs(accepts_remembering(STOP, ("merge", (0, (), (0,)))), True)
        self.assertIs(accepts_remembering(STOP, ("merge", (0, (0,), (0, 0)))), False)

    def test_all_merges_of_short_sequences(self):
        found = {True: 0, False: 0}
        for system in SYSTEMS + LARGE + small_systems() + mixed_systems(40) + permutation_systems(30):
            sequences = list(sequences_by_length(system, 2))[:7]
            for command in range(len(system[2])):
                for one, other in itertools.product(sequences, repeat=2):
                    right = is_merge(system, command, one, other)
                    found[right] += 1
                    with self.subTest(system=system, merge=(command, one, other)):
                        self.assertIs(accepts_remembering(system, ("merge", (command, one, other))), right)
        self.assertGreater(min(found.values()), 500)

    def test_merges_of_16_commands_and_of_17(self):
        ladder = (8, 0, ((1, 2, 3, 4, 5, 6, 7, 7),))
        for one, other, right in ((6, 7, True), (6, 16, True), (16, 6, True), (6, 17, False), (17, 6, False),
                                  (7, 16, False), (6, 64, False), (17, 18, False)):
            value = ("merge", (0, (0,) * one, (0,) * other))
            with self.subTest(one=one, other=other):
                self.assertIs(accepts_remembering(ladder, value), right)

    def test_an_extension_is_good_if_each_action_of_a_reachable_state_is_revocable(self):
        found = {True: 0, False: 0}
        for system in SYSTEMS + small_systems() + mixed_systems(60) + permutation_systems(60) + regular_systems():
            if effects_told(system) is None:
                continue
            for wide, image in ((system, tuple(range(system[0]))), effect_system(system)):
                if wide[0] <= 24:
                    right = all_keep(wide)
                    found[right] += 1
                    with self.subTest(system=system, wide=wide):
                        self.assertIs(accepts_remembering(system, ("extension", (wide, image))), right)
        self.assertGreater(min(found.values()), 60)

    def test_a_good_system_that_is_no_extension(self):
        wide, image = effect_system(PLACE)
        for other in with_other_items(image, range(3)):
            self.assertIs(accepts_remembering(PLACE, ("extension", (wide, other))), False)
        self.assertIs(accepts_remembering(PLACE, ("extension", (RING, (0, 1, 2)))), False)

    def test_more_than_has_to_be_remembered(self):
        # How often the command was done, up to so many times, beside the state.
        for states in (3, 6, 60, 120):
            self.assertIs(accepts_remembering(RING, ("extension", ring_over(RING, states))), True)
        self.assertIs(accepts_remembering(RING, ("extension", ring_over(RING, 123))), False)
        # A state is a pair of effects' numbers: of the place of a card, and how many commands came, even or odd.
        wide, image = effect_system(PLACE)
        rows = tuple(tuple(row[k % 6] + 6 * (k < 6) for k in range(12)) for row in wide[2])
        twice = ((12, 0, rows), image + image)
        self.assertIs(accepts_remembering(PLACE, ("extension", twice)), True)

    def test_what_is_not_reachable_may_merge(self):
        wide, image = effect_system(PLACE)
        rows = tuple(row + (0, 0) for row in wide[2])
        self.assertIs(accepts_remembering(PLACE, ("extension", ((8, 0, rows), image + (2, 2)))), True)

    def test_of_120_states(self):
        self.assertIs(accepts_remembering(FIVE, ("extension", effect_system(FIVE))), True)
        (states, start, rows), image = effect_system(FIVE)
        wrong = (states, start, (rows[0], rows[0]))
        self.assertIs(accepts_remembering(FIVE, ("extension", (wrong, image))), False)
        more = (121, start, tuple(row + (0,) for row in rows))
        self.assertIs(accepts_remembering(FIVE, ("extension", (more, image + (0,)))), False)
        # An extension of 120 reachable states which merges two of them.
        row = tuple(min(state + 1, 119) for state in range(120))
        single = (1, 0, ((0,),))
        self.assertIs(accepts_extension(single, ((120, 0, (row,)), (0,) * 120)), True)
        self.assertIs(accepts_remembering(single, ("extension", ((120, 0, (row,)), (0,) * 120))), False)

    def test_120_states_far_from_good(self):
        # Nearly all pairs of states would come of one command.
        row, other = tuple((state + 1) % 120 for state in range(120)), (1, 0, *range(2, 120))
        single = (1, 0, ((0,),) * 2)
        value = ("extension", ((120, 0, (row, other)), (0,) * 120))
        self.assertIs(accepts_extension(single, value[1]), True)
        self.assertIs(accepts_remembering(single, value), False)

    def test_never_both_words(self):
        for system in SYSTEMS + small_systems() + mixed_systems(30) + permutation_systems(30):
            if effects_told(system) is None:
                continue
            sequences = list(sequences_by_length(system, 3))[:20]
            pairs = itertools.product(range(len(system[2])), sequences, sequences)
            found = any(accepts_remembering(system, ("merge", merge)) for merge in pairs)
            good = accepts_remembering(system, ("extension", effect_system(system)))
            with self.subTest(system=system):
                self.assertIs(good, not merges(system))
                self.assertFalse(found and good)

    def test_values_of_other_kinds(self):
        self.assert_refused(lambda value: accepts_remembering(STOP, value), ("merge", (0, (), (0,))))
        self.assert_refused(lambda value: accepts_remembering(EXAMPLE, value), remembering_evidence(EXAMPLE))
        for system in (PLACE, RING, ALONE):
            self.assert_refused(lambda value: accepts_remembering(system, value), remembering_evidence(system))
        extension = effect_system(RING)
        for value in (extension, ("merge", extension), ("extension", *extension), ("extension",), ("rows", extension),
                      ("Extension", extension), ["extension", extension], (extension, "extension"),
                      ("merge", 0, (), (0,))):
            self.assertIs(accepts_remembering(RING, value), False)
        for merge in ((False, (), (0,)), (0, (), (False,)), (0, [], (0,)), (0, (), (0,), ()), (0, ()), (2, (), (0,)),
                      (-1, (), (0,)), (0, (), (2,)), (None, (), (0,)), ((0,), (), (0,)), (0, (), ()), (0, (0,), (0,))):
            with self.subTest(merge=merge):
                self.assertIs(accepts_remembering(STOP, ("merge", merge)), False)
        self.assertIs(accepts_remembering(ALONE, ("merge", (0, (), ()))), False)


class WrongArgumentTest(ArgumentCase):

    def test_of_a_system_alone(self):
        for function in (least_states, remembering_evidence):
            self.assert_checked(function, (PLACE,), [("system", NO_SYSTEMS)])

    def test_judges(self):
        for judge in (accepts_extension, accepts_apart, accepts_remembering):
            self.assert_checked(judge, (PLACE, None), [("system", NO_SYSTEMS)])

    def test_a_wide_system_is_no_system(self):
        for function in (least_states, remembering_evidence):
            self.assert_bad("system", function, (9, 0, ()))
        self.assert_bad("system", accepts_extension, (9, 0, ()), ((9, 0, ()), tuple(range(9))))


class SameCallTest(unittest.TestCase):

    def told(self, system):
        evidence = remembering_evidence(system)
        return [least_states(system), evidence, accepts_remembering(system, evidence), accepts_apart(system, ((),))]

    def test_the_same_call_twice(self):
        systems = (EXAMPLE, PLACE, CARDS, STOP, FIVE)
        first = [self.told(system) for system in systems]
        self.assertEqual([self.told(system) for system in systems], first)

    def test_kinds_of_values(self):
        self.assertEqual([type(least_states(system)) for system in (PLACE, ALONE)], [int, int])
        word, (command, one, other) = remembering_evidence(STOP)
        self.assertEqual([type(value) for value in (word, command, one, other)], [str, int, tuple, tuple])
        self.assertEqual([type(remembering_evidence(system)) for system in (STOP, PLACE)], [tuple] * 2)
        self.assertEqual([type(remembering_evidence(system)[1]) for system in (STOP, PLACE)], [tuple] * 2)

    def test_an_error_changes_nothing(self):
        for _ in range(2):
            with self.assertRaises(TooLarge):
                least_states(SIX)
            self.assertEqual(least_states(PLACE), 6)

    def test_arguments_by_their_names(self):
        self.assertEqual((least_states(system=RING), remembering_evidence(system=RING)[0]), (3, "extension"))
        self.assertIs(accepts_extension(system=RING, value=(RING, (0, 1, 2))), True)
        self.assertIs(accepts_apart(system=RING, value=((),)), True)
        self.assertIs(accepts_remembering(system=RING, value=("extension", (RING, (0, 1, 2)))), True)


if __name__ == "__main__":
    unittest.main()
