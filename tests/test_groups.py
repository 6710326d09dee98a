"""Points 2 to 8 and 52 to 64, and the interface of undobystate/groups.py."""

import itertools
import unittest

from cases import ALONE, CARDS, EXAMPLE, LADDER, NO_NUMBERS, NO_SEQUENCES, NO_SYSTEMS, PLACE, RING, WIDEST
from cases import ArgumentCase, actions_in, chosen_in, effects_reached, first_refutation, keeps, mixed_systems
from cases import permutation_systems, place_after, regular_systems, renamed, sequences_by_length, shuffled
from cases import small_systems, taken_out
from undobystate.actions import told_refutation
from undobystate.errors import NotPossible
from undobystate.groups import accepts_group, factor, failing, group_evidence, inverse, is_regular, product, products

# Both commands are one to one, but there are more effects than states.
MIXED = (4, 0, ((1, 2, 3, 0), (1, 0, 2, 3)))

# The reachable states are 2, 4, 5, and the start is not the least one of them.
INNER = (8, 4, ((0, 0, 4, 7, 5, 2, 6, 1), (3, 3, 5, 3, 2, 4, 3, 3)))

SYSTEMS = [EXAMPLE, PLACE, CARDS, LADDER, RING, ALONE, WIDEST, MIXED, INNER, (8, 3, ()), (1, 0, ((0,),) * 4)]
ALL = SYSTEMS + small_systems() + mixed_systems(100) + permutation_systems(120) + regular_systems()


def regular_ones(systems):
    """Return those of the systems all actions of which in reachable states are revocable."""
    return [system for system in systems if all(
        keeps(system, state, command) for state in chosen_in(system) for command in range(len(system[2])))]


REGULAR = regular_ones(ALL)
OTHERS = [system for system in ALL if system not in REGULAR]


def ways(system):
    """Return a sequence from the start to each reachable state, not the first ones."""
    found = {}
    for sequence in sequences_by_length(system, 8 if len(system[2]) == 1 else 4):
        found[place_after(system, system[1], sequence)] = sequence
    return found


class RegularTest(unittest.TestCase):

    def test_the_examples(self):
        self.assertEqual((is_regular(CARDS), is_regular(PLACE), is_regular((3, 0, ()))), (True, False, True))
        self.assertEqual((is_regular(RING), is_regular(MIXED), is_regular(INNER)), (True, False, True))

    def test_every_action_in_each_reachable_state_is_revocable(self):
        self.assertGreater(min(len(REGULAR), len(OTHERS)), 60)
        for system in ALL:
            with self.subTest(system=system):
                self.assertIs(is_regular(system), system in REGULAR)

    def test_every_command_is_revocable_in_the_start(self):
        for system in ALL:
            with self.subTest(system=system):
                every = all(keeps(system, system[1], command) for command in range(len(system[2])))
                self.assertIs(is_regular(system), every)

    def test_sequences_that_agree_at_one_reachable_state_agree_at_each(self):
        for system in SYSTEMS + small_systems() + permutation_systems(60):
            chosen = chosen_in(system)
            found = pairs_reached_at_once(system, chosen)
            same = all(len({effect[at] for effect in found}) == len(found) for at in range(len(chosen)))
            with self.subTest(system=system):
                self.assertIs(is_regular(system), same)

    def test_one_to_one_and_not_more_effects_than_reachable_states(self):
        for system in ALL:
            chosen = chosen_in(system)
            right = all(len({row[state] for state in chosen}) == len(chosen) for row in system[2])
            with self.subTest(system=system):
                self.assertIs(is_regular(system), right and effects_reached(system, len(chosen)) is not None)

    def test_without_commands(self):
        for states in range(1, 9):
            for start in range(states):
                self.assertIs(is_regular((states, start, ())), True)

    def test_merged_reachable_states_make_no_regular_system(self):
        for system in ALL:
            chosen = chosen_in(system)
            if any(len({row[state] for state in chosen}) < len(chosen) for row in system[2]):
                with self.subTest(system=system):
                    self.assertIs(is_regular(system), False)
        # States that are not reachable may be merged.
        self.assertIs(is_regular((4, 0, ((1, 0, 0, 0), (0, 1, 1, 1)))), True)

    def test_with_commands_taken_out_it_stays_regular(self):
        for system in REGULAR:
            for command in range(len(system[2])):
                with self.subTest(system=system, command=command):
                    self.assertIs(is_regular(taken_out(system, command)), True)

    def test_how_often_a_command_has_to_be_done_to_come_back(self):
        for system in REGULAR:
            chosen = chosen_in(system)
            for command in range(len(system[2])):
                often = {self.way_back(system, state, command) for state in chosen}
                with self.subTest(system=system, command=command):
                    self.assertEqual(len(often), 1)
                    self.assertEqual(len(chosen) % often.pop(), 0)

    def way_back(self, system, state, command):
        many, there = 1, system[2][command][state]
        while there != state:
            many, there = many + 1, system[2][command][there]
        return many

    def test_commands_that_can_be_exchanged_in_one_state_can_be_in_each(self):
        for system in REGULAR:
            for one, other in itertools.combinations(system[2], 2):
                found = {one[other[state]] == other[one[state]] for state in chosen_in(system)}
                with self.subTest(system=system):
                    self.assertEqual(len(found), 1)


def pairs_reached_at_once(system, states):
    """Return the set of the tuples of states to which a sequence leads from these, up to 9 of them."""
    found = {tuple(states)}
    while len(found) < 9:
        more = found | {tuple(row[state] for state in effect) for row in system[2] for effect in found}
        if more == found:
            break
        found = more
    return found


class FailingTest(unittest.TestCase):

    def test_the_examples(self):
        self.assertEqual((failing(CARDS), failing(PLACE), failing((2, 0, ((1, 1),)))), ((), (0,), (0,)))

    def test_of_the_start_alone(self):
        self.assertEqual(failing((3, 0, PLACE[2])), (0,))
        self.assertEqual(failing((3, 1, PLACE[2])), (0, 1))
        self.assertEqual(failing((3, 2, PLACE[2])), (1,))

    def test_all_systems(self):
        for system in ALL:
            wrong = [command for command in range(len(system[2])) if not keeps(system, system[1], command)]
            with self.subTest(system=system):
                self.assertEqual(failing(system), tuple(wrong))


class ProductsTest(unittest.TestCase):

    def test_the_examples(self):
        self.assertEqual(products((2, 0, ((1, 0),))), ((0, 1), (1, 0)))
        self.assertEqual(products((3, 1, ())), ((1,),))
        self.assertIs(products(PLACE), None)

    def test_a_start_that_is_not_the_least_state(self):
        self.assertEqual(products(INNER), ((5, 2, 4), (2, 4, 5), (4, 5, 2)))
        self.assertEqual(products((3, 1, ((1, 2, 0),))), ((2, 0, 1), (0, 1, 2), (1, 2, 0)))

    def test_x_y_stands_in_the_row_of_x(self):
        rows = products(CARDS)
        self.assertEqual((rows[1][2], rows[2][1]), (4, 3))
        for sequence in sequences_by_length(CARDS, 4):
            for state in range(6):
                one = place_after(CARDS, 0, sequence)
                self.assertEqual(rows[one][state], place_after(CARDS, state, sequence))

    def test_all_systems(self):
        for system in OTHERS:
            with self.subTest(system=system):
                self.assertIs(products(system), None)
        for system in REGULAR:
            chosen = chosen_in(system)
            led = ways(system)
            with self.subTest(system=system):
                self.assertEqual(sorted(led), chosen)
                rows = tuple(tuple(place_after(system, other, led[one]) for other in chosen) for one in chosen)
                self.assertEqual(products(system), rows)

    def test_any_sequence_to_a_state_leads_to_its_product(self):
        for system in REGULAR:
            chosen = chosen_in(system)
            rows = products(system)
            for sequence in list(sequences_by_length(system, 4))[:60]:
                row = rows[chosen.index(place_after(system, system[1], sequence))]
                with self.subTest(system=system, sequence=sequence):
                    self.assertEqual(row, tuple(place_after(system, state, sequence) for state in chosen))

    def test_they_are_a_group(self):
        for system in REGULAR:
            chosen = chosen_in(system)
            rows = dict(zip(chosen, (dict(zip(chosen, row)) for row in products(system))))
            with self.subTest(system=system):
                for one, two, three in itertools.product(chosen, repeat=3):
                    self.assertEqual(rows[rows[one][two]][three], rows[one][rows[two][three]])
                for one in chosen:
                    self.assertEqual((rows[system[1]][one], rows[one][system[1]]), (one, one))
                    # With one state and the product known, there is just one other state.
                    self.assertEqual(sorted(rows[one].values()), chosen)
                    self.assertEqual(sorted(rows[other][one] for other in chosen), chosen)

    def test_of_renamed_states(self):
        for number, system in enumerate(REGULAR):
            names = shuffled(system[0], number)
            other = renamed(system, names)
            with self.subTest(system=system, names=names):
                self.assertIs(is_regular(other), True)
                for one, two in itertools.product(chosen_in(system), repeat=2):
                    self.assertEqual(product(other, names[one], names[two]), names[product(system, one, two)])


class ProductTest(ArgumentCase):

    def assert_not_regular(self, function, *arguments):
        with self.subTest(function=function.__name__, arguments=arguments):
            with self.assertRaises(NotPossible) as caught:
                function(*arguments)
            self.assertEqual(caught.exception.why, "regular")

    def test_the_examples(self):
        self.assertEqual((product(CARDS, 1, 2), product(CARDS, 2, 1), inverse(CARDS, 3)), (4, 3, 4))

    def test_all_products_and_inverses(self):
        for system in REGULAR:
            chosen = chosen_in(system)
            rows = products(system)
            with self.subTest(system=system):
                for (at, one), (place, other) in itertools.product(enumerate(chosen), repeat=2):
                    self.assertEqual(product(system, one, other), rows[at][place])
                for state in chosen:
                    back = inverse(system, state)
                    self.assertEqual((product(system, state, back), product(system, back, state)), (system[1],) * 2)

    def test_not_possible_if_the_system_is_not_regular(self):
        for system in OTHERS:
            for state in chosen_in(system):
                self.assert_not_regular(inverse, system, state)
                self.assert_not_regular(product, system, state, system[1])
                self.assert_not_regular(product, system, system[1], state)
            for command in range(len(system[2])):
                self.assert_not_regular(factor, system, (), command)

    def test_undoing_is_multiplying(self):
        for system in REGULAR:
            sequences = [*list(sequences_by_length(system, 2))[:15], (0, 0, 0, 0, 0) if system[2] else ()]
            for first, command, last in itertools.product(sequences[-6:], range(len(system[2])), sequences):
                told = factor(system, first, command)
                with self.subTest(system=system, first=first, command=command, last=last):
                    done = place_after(system, system[1], (*first, command, *last))
                    self.assertEqual(product(system, done, told), place_after(system, system[1], first + last))

    def test_factors_by_the_words_of_the_document(self):
        self.assertEqual(factor(CARDS, (0,), 1), 5)
        for system in REGULAR:
            for sequence in list(sequences_by_length(system, 3))[:15]:
                for command in range(len(system[2])):
                    before = place_after(system, system[1], sequence)
                    back = inverse(system, system[2][command][before])
                    with self.subTest(system=system, sequence=sequence, command=command):
                        self.assertEqual(factor(system, sequence, command), product(system, back, before))

    def test_sixteen_commands(self):
        # What (0, 1) does is done three times to come back.
        self.assertEqual(factor(CARDS, (0, 1) * 8, 0), factor(CARDS, (0, 1, 0, 1), 0))
        self.assertEqual(factor(RING, (0,) * 16, 0), 2)
        self.assert_bad("sequence", factor, RING, (0,) * 17, 0)


class EvidenceTest(ArgumentCase):

    def assert_group(self, right, system, value):
        with self.subTest(system=system, value=value):
            self.assertIs(accepts_group(system, value), right)

    def test_the_examples(self):
        self.assertEqual(group_evidence(PLACE), ("refutation", 0, (0,), (0, 1)))
        self.assert_group(True, CARDS, ("rows", products(CARDS)))
        self.assert_group(True, (2, 0, ((1, 1),)), ("refutation", 0, (), (0,)))
        self.assertEqual(group_evidence((3, 1, ())), ("rows", ((1,),)))

    def test_what_is_told(self):
        for system in REGULAR:
            with self.subTest(system=system):
                self.assertEqual(group_evidence(system), ("rows", products(system)))
        for system in OTHERS:
            wrong = failing(system)[0]
            told = told_refutation(system, system[1], wrong)
            with self.subTest(system=system):
                self.assertEqual(group_evidence(system), ("refutation", wrong, *told))

    def test_the_refutation_is_the_first_one(self):
        for system in OTHERS:
            if len(system[2]) <= 2:
                _, command, one, other = group_evidence(system)
                longest = len(other)
                if longest <= 6:
                    behind = system[2][command][system[1]]
                    with self.subTest(system=system):
                        self.assertEqual((one, other), first_refutation(system, behind, system[1], longest))

    def test_what_is_told_is_accepted(self):
        for system in ALL:
            self.assert_group(True, system, group_evidence(system))

    def test_exactly_one_of_the_two_words(self):
        for system in small_systems() + [PLACE, EXAMPLE, RING, (3, 2, ((1, 0, 2),)), (3, 0, ((1, 0, 2),))]:
            chosen = chosen_in(system)
            values = [("rows", rows) for rows in itertools.product(
                itertools.product(range(system[0]), repeat=len(chosen)), repeat=len(chosen))]
            for command in range(len(system[2])):
                for some in itertools.product(sequences_by_length(system, 3), repeat=2):
                    values.append(("refutation", command, *some))
            with self.subTest(system=system):
                accepted = [value for value in values if accepts_group(system, value)]
                regular = regular_ones([system]) == [system]
                self.assertEqual({value[0] for value in accepted}, {"rows" if regular else "refutation"})
                if regular:
                    # Whoever wrote rows that are accepted, they are the products.
                    self.assertEqual(accepted, [("rows", products(system))])

    def test_each_place_of_rows_changed(self):
        for system in (CARDS, RING, INNER, (2, 0, ((1, 0),)), (8, 3, ((1, 2, 3, 4, 5, 6, 7, 0),))):
            rows = products(system)
            for at, row in enumerate(rows):
                for place in range(len(row)):
                    for state in range(-1, system[0] + 1):
                        new = row[:place] + (state,) + row[place + 1:]
                        self.assert_group(new == row, system, ("rows", rows[:at] + (new,) + rows[at + 1:]))

    def test_rows_and_places_in_another_order(self):
        for system in (CARDS, RING, INNER, (3, 1, ((1, 2, 0),))):
            rows = products(system)
            self.assert_group(True, system, ("rows", rows))
            for order in itertools.permutations(range(len(rows))):
                same = order == tuple(range(len(rows)))
                self.assert_group(same, system, ("rows", tuple(rows[k] for k in order)))
                self.assert_group(same, system, ("rows", tuple(tuple(row[k] for k in order) for row in rows)))
        turned = tuple(zip(*products(CARDS)))
        self.assert_group(False, CARDS, ("rows", turned))

    def test_in_no_place_two_rows_have_the_same_state(self):
        # The row of the start is right, and each command leads from rows to rows, but not to different ones.
        for system, rows in (((2, 0, ((1, 1),)), ((0, 1), (1, 1))), (EXAMPLE, ((0, 1), (1, 0))),
                             ((3, 0, ((1, 1, 1), (2, 2, 2))), ((0, 1, 2), (1, 1, 1), (2, 2, 2)))):
            self.assert_group(False, system, ("rows", rows))

    def test_the_row_of_the_start_has_the_states_in_their_order(self):
        # Each command leads from rows to rows, and no two have the same state in a place.
        self.assert_group(False, RING, ("rows", ((1, 2, 0), (2, 0, 1), (0, 1, 2))))
        self.assert_group(False, RING, ("rows", ((0, 2, 1), (1, 0, 2), (2, 1, 0))))
        self.assert_group(False, (2, 0, ((1, 0),)), ("rows", ((1, 0), (0, 1))))
        self.assert_group(True, RING, ("rows", ((0, 1, 2), (1, 2, 0), (2, 0, 1))))

    def test_every_command_leads_from_rows_to_rows(self):
        # With the command 0 alone, or with the command 1 alone, the rows would show it.
        square = (4, 0, ((1, 2, 3, 0), (1, 0, 3, 2)))
        self.assertIs(is_regular(square), False)
        rows = products((4, 0, square[2][:1]))
        self.assert_group(True, (4, 0, square[2][:1]), ("rows", rows))
        self.assert_group(False, square, ("rows", rows))
        self.assert_group(False, (4, 0, square[2][::-1]), ("rows", rows))

    def test_only_reachable_states_have_rows(self):
        system = (3, 0, ((1, 0, 2),))
        self.assert_group(True, system, ("rows", ((0, 1), (1, 0))))
        self.assert_group(False, system, ("rows", ((0, 1, 2), (1, 0, 2), (2, 2, 2))))
        self.assert_group(False, system, ("rows", ((0, 1, 2), (1, 0, 2), (2, 0, 1))))
        self.assert_group(False, system, ("rows", ((0, 2), (1, 2))))
        self.assert_group(False, (3, 2, ((1, 0, 2),)), ("rows", ((0, 1), (1, 0))))
        self.assert_group(True, (3, 2, ((1, 0, 2),)), ("rows", ((2,),)))

    def test_all_refutations_with_short_sequences(self):
        for system in (PLACE, EXAMPLE, RING, MIXED, CARDS, (2, 0, ((1, 1), (0, 1))), (3, 2, PLACE[2])):
            for command, row in enumerate(system[2]):
                start, behind = system[1], row[system[1]]
                for one, other in itertools.product(sequences_by_length(system, 2), repeat=2):
                    right = (place_after(system, behind, one) == place_after(system, behind, other)
                             and place_after(system, start, one) != place_after(system, start, other))
                    self.assert_group(right, system, ("refutation", command, one, other))

    def test_64_commands_and_no_more(self):
        system = (2, 0, ((1, 1), (0, 1)))
        for length in (0, 1, 16, 17, 63, 64):
            self.assert_group(True, system, ("refutation", 0, (1,) * length, (0,) * 64))
            self.assert_group(True, system, ("refutation", 0, (0,) * 64, (1,) * length))
        for length in (65, 66, 100, 1000):
            self.assert_group(False, system, ("refutation", 0, (), (0,) * length))
            self.assert_group(False, system, ("refutation", 0, (0,) * length, ()))

    def test_other_values(self):
        system = (2, 0, ((1, 1), (0, 1)))
        for told, value in ((CARDS, ("rows", products(CARDS))), (RING, ("rows", products(RING))),
                            (ALONE, ("rows", ((0,),))), (PLACE, ("refutation", 0, (0,), (0, 1))),
                            (system, ("refutation", 0, (1, 1), (1, 0))),
                            ((2, 1, ((0, 1), (0, 0))), ("refutation", 1, (), (1,)))):
            self.assert_refused(lambda other, told=told: accepts_group(told, other), value)
            word, *shown = value
            for wrong in [(), (word,), tuple(shown), (*shown, word), (word, *shown, ()), (word, tuple(shown), ()),
                          (word, *shown, *shown), (word, word, *shown), (word + "s", *shown), ("", *shown)]:
                self.assert_group(False, told, wrong)
        for value in (("refutation", (0,), (0, 1)), ("refutation", 0, ((0,), (0, 1))), ("refutation", 1, (0,), (0, 1)),
                      ("refutation", 2, (0,), (0, 1)), ("refutation", 0, (0,), (0, 2)), ("rows", 0, (0,), (0, 1))):
            self.assert_group(False, PLACE, value)
        rows = products(RING)
        for wrong in ((), rows[:2], rows + rows[:1], (*rows[:2], (2, 0)), (*rows[:2], (2, 0, 1, 2)), (*rows[:2], ())):
            self.assert_group(False, RING, ("rows", wrong))
        self.assert_group(False, RING, ("refutation", rows))


class WrongArgumentTest(ArgumentCase):

    def test_of_a_system(self):
        for function in (is_regular, failing, products, group_evidence):
            self.assert_checked(function, (CARDS,), [("system", NO_SYSTEMS)])
        for value in (("rows", ((0,),)), None, 0):
            self.assert_checked(accepts_group, (CARDS, value), [("system", NO_SYSTEMS)])

    def test_states_that_are_not_reachable(self):
        states = NO_NUMBERS + [0, 1, 3, 6, 7, 8, 9]
        wrong = [("system", NO_SYSTEMS), ("one", states), ("other", states)]
        self.assert_checked(product, (INNER, 2, 5), wrong)
        self.assert_checked(inverse, (INNER, 5), [("system", NO_SYSTEMS), ("state", states)])

    def test_factor(self):
        wrong = [("system", NO_SYSTEMS), ("sequence", NO_SEQUENCES), ("command", NO_NUMBERS + [2, 4])]
        self.assert_checked(factor, (CARDS, (0, 1), 1), wrong)
        self.assert_bad("command", factor, ALONE, (), 0)
        self.assert_bad("sequence", factor, ALONE, (0,), 0)

    def test_wrong_arguments_come_before_what_is_not_possible(self):
        states = NO_NUMBERS + [2, 3, 8]
        for state in states:
            self.assert_bad("one", product, EXAMPLE, state, 0)
            self.assert_bad("one", product, EXAMPLE, state, 2)
            self.assert_bad("other", product, EXAMPLE, 0, state)
            self.assert_bad("state", inverse, EXAMPLE, state)
        for sequence in NO_SEQUENCES:
            self.assert_bad("sequence", factor, PLACE, sequence, 0)
            self.assert_bad("sequence", factor, PLACE, sequence, 9)
        for command in NO_NUMBERS + [2, 4]:
            self.assert_bad("command", factor, PLACE, (0,), command)


class SameCallTest(unittest.TestCase):

    def told(self, system):
        return [is_regular(system), failing(system), products(system), group_evidence(system),
                accepts_group(system, group_evidence(system))]

    def test_the_same_call_twice(self):
        systems = (EXAMPLE, PLACE, CARDS, INNER, MIXED)
        first = [self.told(system) for system in systems]
        self.assertEqual([self.told(system) for system in systems], first)
        self.assertEqual([product(CARDS, 1, 2), inverse(CARDS, 3)], [product(CARDS, 1, 2), inverse(CARDS, 3)])

    def test_kinds_of_values(self):
        told = [failing(PLACE), failing(CARDS), products(CARDS), *products(CARDS), group_evidence(CARDS)]
        told += [group_evidence(PLACE), *group_evidence(PLACE)[2:]]
        self.assertEqual([type(value) for value in told], [tuple] * 13)
        numbers = [product(CARDS, 1, 2), inverse(CARDS, 3), factor(CARDS, (0,), 1)]
        self.assertEqual([type(value) for value in numbers], [int] * 3)

    def test_arguments_are_not_modified(self):
        rows = [[0, 1], [1, 0]]
        self.assertIs(accepts_group((2, 0, ((1, 0),)), ("rows", rows)), False)
        self.assertEqual(rows, [[0, 1], [1, 0]])

    def test_arguments_by_their_names(self):
        self.assertEqual((is_regular(system=RING), failing(system=RING)), (True, ()))
        self.assertEqual((products(system=ALONE), group_evidence(system=ALONE)), (((0,),), ("rows", ((0,),))))
        self.assertEqual((product(system=RING, one=1, other=2), inverse(system=RING, state=1)), (0, 2))
        self.assertEqual(factor(system=RING, sequence=(), command=0), 2)
        self.assertIs(accepts_group(system=ALONE, value=("rows", ((0,),))), True)


class ActionsOfRegularSystemsTest(unittest.TestCase):

    def test_each_system_of_a_group_is_regular(self):
        for system in regular_systems():
            with self.subTest(system=system):
                self.assertIs(is_regular(system), True)

    def test_actions_in_other_states_do_not_count(self):
        system = (4, 0, ((1, 0, 3, 3), (0, 1, 2, 2)))
        self.assertIs(is_regular(system), True)
        self.assertFalse(all(keeps(system, state, command) for state, command, _ in actions_in(system)))


if __name__ == "__main__":
    unittest.main()
