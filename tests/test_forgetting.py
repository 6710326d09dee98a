"""Points 2 to 8 and 65 to 76, and the interface of undobystate/forgetting.py."""

import itertools
import unittest

from cases import ALONE, CARDS, EXAMPLE, LADDER, NO_NUMBERS, NO_SYSTEMS, PLACE, RING, WIDEST
from cases import ArgumentCase, chosen_in, mixed_systems, pairs_reached, permutation_systems, place_after
from cases import regular_systems, renamed, sequences_by_length, shuffled, small_systems, states_reached, taken_out
from undobystate.forgetting import accepts_blocks, accepts_joins, finest, joins, quotient
from undobystate.groups import is_regular
from undobystate.systems import is_system

TURN = (4, 1, ((0, 2, 3, 1),))

# A path of three states into a ring of three.
TAIL = (6, 0, ((1, 2, 3, 4, 5, 3),))

# Six states in a ring, and a command that exchanges neighbours: 0 and 1, 2 and 3, 4 and 5.
NEIGHBOURS = (6, 0, ((2, 3, 4, 5, 0, 1), (1, 0, 2, 3, 4, 5)))

# The states 2, 3 and 5 are reachable.
INNER = (6, 3, ((0, 0, 5, 2, 1, 3), (2, 4, 3, 5, 4, 2)))

SYSTEMS = [EXAMPLE, PLACE, CARDS, LADDER, RING, ALONE, WIDEST, TURN, TAIL, NEIGHBOURS, INNER, (8, 3, ()),
           (1, 0, ((0,),) * 4)]
ALL = SYSTEMS + small_systems() + mixed_systems(60) + permutation_systems(100) + regular_systems()
SMALL = [system for system in ALL + mixed_systems(200) if len(states_reached(system, system[1])) <= 4]


def asked_pairs(system):
    """Return sets of pairs of states: in each, if first ones are together, the second ones have to be."""
    chosen = chosen_in(system)
    asked = [{(state, row[state]) for state in chosen} for row in system[2]]
    return asked + [pairs_reached(system, row[state], state) for row in system[2] for state in chosen]


def are_revocable(asked, blocks):
    """Tell whether the blocks keep what is asked."""
    moved = [{(blocks[first], blocks[second]) for first, second in some} for some in asked]
    return all(len({first for first, _ in some}) == len(some) for some in moved)


def all_blocks(system):
    """Return all blocks of the system in which they are numbered from 0 in the order of their least states."""
    chosen = chosen_in(system)
    rows = [()]
    for _ in chosen:
        rows = [row + (number,) for row in rows for number in range(max(row, default=-1) + 2)]
    return [spread_out(system, chosen, row) for row in rows]


def spread_out(system, chosen, row):
    """Return the blocks with the row's numbers for the chosen states, and None for the others."""
    return tuple(row[chosen.index(state)] if state in chosen else None for state in range(system[0]))


def are_finer(blocks, others):
    """Tell whether any two states that are together in the blocks are together in the others."""
    pairs = {(one, other) for one, other in zip(blocks, others)}
    return len(pairs) == len(set(blocks))


def together(blocks):
    """Return the set of the pairs of states that are together."""
    states = [state for state, block in enumerate(blocks) if block is not None]
    return {(one, other) for one, other in itertools.product(states, repeat=2) if blocks[one] == blocks[other]}


def finest_by_joining(system):
    """Return the finest blocks, found by joining states as long as something asks for it."""
    chosen = chosen_in(system)
    blocks = {state: {state} for state in chosen}
    asked = asked_pairs(system)
    changed = True
    while changed:
        changed = False
        for some in asked:
            for (first, second), (third, fourth) in itertools.combinations(sorted(some), 2):
                if third in blocks[first] and fourth not in blocks[second]:
                    changed = True
                    new = blocks[second] | blocks[fourth]
                    for state in new:
                        blocks[state] = new
    order = [state for state in chosen if min(blocks[state]) == state]
    return spread_out(system, chosen, [order.index(min(blocks[state])) for state in chosen])


class FinestTest(unittest.TestCase):

    def test_the_examples(self):
        self.assertEqual(finest(PLACE), (0, 0, 0))
        self.assertEqual(finest(TURN), (None, 0, 1, 2))

    def test_some_blocks(self):
        self.assertEqual(finest(TAIL), (0, 1, 2, 0, 1, 2))
        self.assertEqual(finest(NEIGHBOURS), (0, 0, 1, 1, 2, 2))
        self.assertEqual(finest(LADDER), (0,) * 8)
        self.assertEqual(finest(EXAMPLE), (0, 0, None))
        self.assertEqual(finest((8, 3, ())), (None, None, None, 0, None, None, None, None))
        self.assertEqual(finest(CARDS), (0, 1, 2, 3, 4, 5))

    def test_they_are_numbered_in_the_order_of_their_least_states(self):
        self.assertEqual(finest((6, 5, ((1, 2, 0, 2, 3, 4),))), (0, 1, 2, 1, 0, 2))
        self.assertEqual(finest((4, 3, ((3, 0, 1, 2),))), (0, 1, 2, 3))
        self.assertEqual(finest(renamed(NEIGHBOURS, (5, 0, 3, 4, 1, 2))), (0, 1, 1, 2, 2, 0))

    def test_finer_than_all_other_revocable_blocks(self):
        sizes = set()
        for system in SMALL + SYSTEMS[:4] + [TAIL, NEIGHBOURS, INNER]:
            if len(chosen_in(system)) > 6:
                continue
            asked = asked_pairs(system)
            right = [blocks for blocks in all_blocks(system) if are_revocable(asked, blocks)]
            with self.subTest(system=system):
                told = finest(system)
                self.assertIn(told, right)
                self.assertTrue(all(are_finer(told, blocks) for blocks in right))
                sizes.add((len(chosen_in(system)), len(set(told) - {None})))
        self.assertGreater(len(sizes), 10)

    def test_all_systems(self):
        for system in ALL:
            with self.subTest(system=system):
                self.assertEqual(finest(system), finest_by_joining(system))

    def test_each_state_alone_only_if_the_system_is_regular(self):
        for system in ALL:
            chosen = chosen_in(system)
            alone = spread_out(system, chosen, range(len(chosen)))
            with self.subTest(system=system):
                self.assertIs(finest(system) == alone, is_regular(system))
                self.assertIs(accepts_blocks(system, alone), is_regular(system))

    def test_with_further_commands_what_is_together_stays_together(self):
        for system in ALL:
            for command in range(len(system[2])):
                with self.subTest(system=system, command=command):
                    self.assertTrue(together(finest(taken_out(system, command))) <= together(finest(system)))

    def test_of_renamed_states(self):
        for number, system in enumerate(ALL):
            names = shuffled(system[0], number)
            with self.subTest(system=system, names=names):
                moved = {(names[one], names[other]) for one, other in together(finest(system))}
                self.assertEqual(together(finest(renamed(system, names))), moved)


class QuotientTest(unittest.TestCase):

    def test_the_examples(self):
        self.assertEqual(quotient(PLACE), (1, 0, ((0,), (0,))))
        self.assertEqual(quotient(TURN), (3, 0, ((1, 2, 0),)))

    def test_some_quotients(self):
        self.assertEqual(quotient(TAIL), (3, 0, ((1, 2, 0),)))
        self.assertEqual(quotient(NEIGHBOURS), (3, 0, ((1, 2, 0), (0, 1, 2))))
        self.assertEqual(quotient((6, 5, ((1, 2, 0, 2, 3, 4),))), (3, 2, ((1, 2, 0),)))
        self.assertEqual(quotient((8, 3, ())), (1, 0, ()))
        self.assertEqual(quotient(CARDS), CARDS)

    def test_commands_lead_from_blocks_to_blocks(self):
        for system in ALL:
            blocks = finest(system)
            with self.subTest(system=system):
                states, start, commands = quotient(system)
                self.assertEqual(states, len(set(blocks) - {None}))
                self.assertEqual(start, blocks[system[1]])
                self.assertEqual(len(commands), len(system[2]))
                for state in chosen_in(system):
                    for row, moved in zip(system[2], commands):
                        self.assertEqual(moved[blocks[state]], blocks[row[state]])

    def test_it_is_a_regular_system_all_states_of_which_are_reachable(self):
        for system in ALL:
            told = quotient(system)
            with self.subTest(system=system):
                self.assertIs(is_system(told), True)
                self.assertIs(is_regular(told), True)
                self.assertEqual(chosen_in(told), list(range(told[0])))
                self.assertEqual(finest(told), tuple(range(told[0])))
                self.assertIs(told[0] == len(chosen_in(system)), is_regular(system))


class AcceptsBlocksTest(ArgumentCase):

    def assert_blocks(self, right, system, value):
        with self.subTest(system=system, value=value):
            self.assertIs(accepts_blocks(system, value), right)

    def test_the_examples(self):
        self.assert_blocks(True, PLACE, (4, 4, 4))
        self.assert_blocks(False, PLACE, (0, 1, 1))
        self.assert_blocks(True, TURN, (None, 0, 1, 2))
        self.assert_blocks(False, TURN, (0, 0, 0, 0))

    def test_the_finest_ones_and_all_in_one_block(self):
        for system in ALL:
            self.assert_blocks(True, system, finest(system))
            for number in range(8):
                one = spread_out(system, chosen_in(system), (number,) * 8)
                self.assert_blocks(True, system, one)

    def test_all_blocks(self):
        told = []
        for system in SMALL + [TAIL, NEIGHBOURS, INNER, CARDS, renamed(CARDS, (3, 5, 1, 0, 4, 2))]:
            asked = asked_pairs(system)
            for blocks in all_blocks(system):
                right = are_revocable(asked, blocks)
                told.append(right)
                self.assert_blocks(right, system, blocks)
        self.assertGreater(min(told.count(True), told.count(False)), 400)

    def test_any_numbers_from_0_to_7(self):
        for names in ((7, 0, 3), (1, 5, 2), (6, 7, 0), (2, 1, 0)):
            self.assert_blocks(True, TAIL, names * 2)
            self.assert_blocks(True, TURN, (None, *names))
            self.assert_blocks(False, TAIL, names + names[::-1])
        for number in (8, 9, -1, 100):
            self.assert_blocks(False, TAIL, (0, 1, number) * 2)
            self.assert_blocks(False, PLACE, (number,) * 3)
        self.assert_blocks(True, (8, 0, ((1, 2, 3, 4, 5, 6, 7, 0),)), (7, 6, 5, 4, 3, 2, 1, 0))
        self.assert_blocks(False, (8, 0, ((1, 2, 3, 4, 5, 6, 7, 0),)), (8, 6, 5, 4, 3, 2, 1, 0))

    def test_numbers_for_the_reachable_states_and_none_for_the_others(self):
        self.assert_blocks(False, TURN, (3, 0, 1, 2))
        self.assert_blocks(False, TURN, (0, 0, 1, 2))
        self.assert_blocks(False, TURN, (None, None, 1, 2))
        self.assert_blocks(False, TURN, (None,) * 4)
        self.assert_blocks(False, PLACE, (None,) * 3)
        self.assert_blocks(False, PLACE, (None, 0, 0))
        self.assert_blocks(True, (8, 3, ()), (None, None, None, 5, None, None, None, None))
        self.assert_blocks(False, (8, 3, ()), (None, None, 5, 5, None, None, None, None))

    def test_commands_lead_from_states_together_to_states_together(self):
        # Behind each action these blocks tell the block without it, but a command takes states out of one block apart.
        for blocks in ((0, 1, 0, 1, 2, 2), (0, 0, 1, 2, 1, 2), (0, 1, 2, 2, 1, 0)):
            for some in asked_pairs(CARDS)[2:]:
                self.assertIs(are_revocable([some], blocks), True)
            self.assert_blocks(False, CARDS, blocks)
        self.assert_blocks(True, CARDS, (0, 1, 1, 0, 0, 1))
        system = (4, 0, ((1, 2, 3, 0),))
        self.assert_blocks(True, system, (0, 1, 0, 1))
        self.assert_blocks(True, system, (0, 1, 2, 3))
        self.assert_blocks(False, system, (0, 0, 1, 1))
        self.assert_blocks(False, system, (0, 1, 1, 1))
        self.assert_blocks(False, system, (0, 1, 0, 2))

    def test_behind_each_action_in_each_reachable_state(self):
        # Every command keeps the blocks, but behind an action they do not tell the block without it.
        self.assert_blocks(False, PLACE, (0, 1, 2))
        self.assert_blocks(False, LADDER, (0, 1, 2, 3, 4, 5, 6, 7))
        self.assert_blocks(False, (2, 0, ((1, 1),)), (0, 1))
        # The command 1 is revocable in the start; in 1, too; the command 0 is not.
        self.assert_blocks(False, (3, 0, ((1, 0, 2), (0, 2, 1))), (2, 1, 0))

    def test_other_values(self):
        for told, value in ((PLACE, (4, 4, 4)), (TURN, (None, 0, 1, 2)), (TAIL, (0, 1, 2, 0, 1, 2)), (ALONE, (0,)),
                            (TURN, (None, 1, 1, 1)), (EXAMPLE, (1, 1, None))):
            self.assert_refused(lambda other, told=told: accepts_blocks(told, other), value)
            for wrong in ((), value[:-1], value[1:], value + value[:1], value + (None,), value + value, (value,)):
                self.assert_blocks(False, told, wrong)


class AcceptsJoinsTest(ArgumentCase):

    def assert_joins(self, right, system, one, other, value):
        with self.subTest(system=system, one=one, other=other, value=value):
            self.assertIs(accepts_joins(system, one, other, value), right)
            self.assertIs(accepts_joins(system, other, one, value), right)

    def test_the_examples(self):
        first = ("action", 0, 0, (0,), (0, 1))
        self.assert_joins(True, PLACE, 1, 2, (first,))
        self.assert_joins(True, PLACE, 0, 2, (first, ("command", 1, 2, 0)))
        self.assert_joins(True, TURN, 1, 1, ())
        self.assert_joins(False, PLACE, 0, 1, (("command", 0, 1, 0),))

    def test_without_steps_each_state_is_joined_with_itself_alone(self):
        for system in SYSTEMS:
            for one, other in itertools.product(chosen_in(system), repeat=2):
                self.assert_joins(one == other, system, one, other, ())

    def test_steps_with_equal_states(self):
        for state in range(3):
            self.assert_joins(True, PLACE, state, state, (("command", 0, 0, 1), ("action", 1, 1, (0,), (0,))))
            self.assert_joins(False, PLACE, state, (state + 1) % 3, (("command", 0, 0, 1), ("action", 1, 1, (), ())))

    def test_what_is_joined_with_the_one_or_the_other_is_joined_too(self):
        first, second = ("action", 0, 0, (0,), (0, 1)), ("command", 1, 2, 0)
        for one, other in itertools.product(range(3), repeat=2):
            self.assert_joins(True, PLACE, one, other, (first, second))
            self.assert_joins({one, other} == {1, 2} or one == other, PLACE, one, other, (first,))
        # 2 and 5, then 1 and 4 are joined, then both pairs with each other.
        system = (6, 0, ((1, 2, 2, 4, 5, 5), (3, 1, 2, 0, 4, 5), (1, 4, 5, 4, 1, 2), (0, 0, 0, 0, 0, 0)))
        steps = joins(system, 0, 5)
        for many in range(len(steps) + 1):
            made = self.joined_by(system, steps[:many])
            for one, other in itertools.product(range(6), repeat=2):
                self.assert_joins(other in made[one], system, one, other, steps[:many])

    def joined_by(self, system, steps):
        """Return, for each state, the set of the states that are joined with it, by the words of the document."""
        found = {state: {state} for state in range(system[0])}
        for step in steps:
            if step[0] == "command":
                one, other = system[2][step[3]][step[1]], system[2][step[3]][step[2]]
            else:
                one, other = place_after(system, step[1], step[3]), place_after(system, step[1], step[4])
            new = found[one] | found[other]
            for state in new:
                found[state] = new
        return found

    def test_all_single_steps(self):
        for system in (PLACE, EXAMPLE, RING, (2, 0, ((1, 1), (0, 1))), TURN):
            chosen, commands = chosen_in(system), range(len(system[2]))
            steps = [("command", *some) for some in itertools.product(chosen, chosen, commands)]
            for state, command in itertools.product(chosen, commands):
                for some in itertools.product(sequences_by_length(system, 2), repeat=2):
                    steps.append(("action", state, command, *some))
            for step in steps:
                made = self.joined_by(system, [step])
                if step[0] == "command":
                    holds = step[1] == step[2]
                else:
                    behind = system[2][step[2]][step[1]]
                    holds = place_after(system, behind, step[3]) == place_after(system, behind, step[4])
                for one, other in itertools.combinations_with_replacement(chosen, 2):
                    self.assert_joins(holds and other in made[one], system, one, other, (step,))

    def test_a_step_holds_with_the_steps_ahead_of_it_alone(self):
        first, second = ("action", 0, 0, (0,), (0, 1)), ("command", 1, 2, 0)
        self.assert_joins(False, PLACE, 0, 2, (second, first))
        self.assert_joins(False, PLACE, 1, 2, (second, first))
        self.assert_joins(False, PLACE, 1, 2, (second,))
        self.assert_joins(True, PLACE, 0, 2, (first, first, second, second, first))
        # A step that does not hold is not accepted either behind those that join the states.
        self.assert_joins(False, PLACE, 1, 2, (first, ("command", 0, 1, 0)))
        self.assert_joins(False, PLACE, 1, 2, (first, ("action", 0, 0, (), (0,))))
        self.assert_joins(False, PLACE, 0, 0, (("command", 0, 1, 0),))

    def test_actions_ask_for_states_that_are_joined_and_not_only_for_equal_ones(self):
        # Behind the command 0 in 0 the sequences () and (1, 0) lead to 1 and 2, without it to 0 and 1.
        first, second = ("action", 0, 0, (0,), (0, 1)), ("action", 0, 0, (), (1, 0))
        self.assert_joins(False, PLACE, 0, 1, (second,))
        self.assert_joins(False, PLACE, 0, 1, (second, first))
        self.assert_joins(True, PLACE, 0, 1, (first, second))
        self.assert_joins(True, PLACE, 0, 2, (first, second))

    def test_100_steps_and_no_more(self):
        still, first = ("command", 0, 0, 0), ("action", 0, 0, (0,), (0, 1))
        for many in (98, 99):
            self.assert_joins(True, PLACE, 1, 2, (still,) * many + (first,))
            self.assert_joins(True, PLACE, 1, 2, (first,) + (still,) * many)
        self.assert_joins(True, PLACE, 1, 1, (still,) * 100)
        for many in (101, 102, 1000):
            self.assert_joins(False, PLACE, 1, 1, (still,) * many)
            self.assert_joins(False, PLACE, 1, 2, (first,) + (still,) * (many - 1))

    def test_64_commands_and_no_more(self):
        for length in (0, 1, 2, 16, 17, 62, 63, 64):
            step = ("action", 0, 0, (1,) * (length % 2), (1,) * length)
            self.assert_joins(True, PLACE, 0, 0, (step,))
            self.assert_joins(True, PLACE, 0, 0, (("action", 0, 0, (1,) * length, (1,) * (length % 2)),))
            self.assert_joins(True, (2, 0, ((1, 1),)), 0, 1, (("action", 0, 0, (), (0,) * 64),))
        for length in (65, 66, 100, 1000):
            for sequences in (((1,) * (length % 2), (1,) * length), ((1,) * length, (1,) * (length % 2))):
                self.assert_joins(False, PLACE, 0, 0, (("action", 0, 0, *sequences),))
            self.assert_joins(False, (2, 0, ((1, 1),)), 0, 1, (("action", 0, 0, (), (0,) * length),))

    def test_about_reachable_states_alone(self):
        self.assert_joins(True, TURN, 1, 1, (("command", 1, 1, 0), ("action", 2, 0, (0,), (0,))))
        for state in (0, 4, 8, -1):
            for step in (("command", state, state, 0), ("command", 1, state, 0), ("command", state, 1, 0),
                         ("action", state, 0, (), ())):
                self.assert_joins(False, TURN, 1, 1, (step,))

    def test_commands_that_the_system_does_not_have(self):
        for command in (1, 2, 4, -1):
            for step in (("command", 1, 1, command), ("action", 1, command, (), ()), ("action", 1, 0, (command,), ()),
                         ("action", 1, 0, (), (0, command))):
                self.assert_joins(False, TURN, 1, 1, (step,))
        for step in (("command", 0, 0, 0), ("action", 0, 0, (), ())):
            self.assert_joins(False, ALONE, 0, 0, (step,))

    def test_steps_of_a_wrong_form(self):
        steps = [(), ("command",), ("action",), ("command", 0, 0), ("command", 0, 0, 0, 0), ("action", 0, 0, ()),
                 ("action", 0, 0, (), (), ()), ("action", 0, 0, 0), ("command", 0, 0, (), ()),
                 ("action", 0, 0, ((), ())), (0, 0, 0), (0, 0, 0, "command"), ("commands", 0, 0, 0), ("", 0, 0, 0),
                 ("actions", 0, 0, (), ()), ("command", (0, 0), 0), None, 0, "command", True]
        for step in steps:
            self.assert_joins(False, PLACE, 0, 0, (step,))
            self.assert_joins(False, PLACE, 0, 0, (("command", 0, 0, 0), step))

    def test_other_values(self):
        value = (("action", 0, 0, (0,), (0, 1)), ("command", 1, 2, 0))
        self.assert_refused(lambda other: accepts_joins(PLACE, 0, 2, other), value)
        self.assert_refused(lambda other: accepts_joins(PLACE, 1, 2, other), value[:1])
        self.assert_refused(lambda other: accepts_joins(PLACE, 1, 1, other), (("command", 1, 1, 1),))
        self.assert_refused(lambda other: accepts_joins(PLACE, 1, 1, other), ())
        for wrong in (value[0], value[1], (value,), (*value[0], value[1])):
            self.assert_joins(False, PLACE, 1, 2, wrong)


class JoinsTest(unittest.TestCase):

    def test_the_examples(self):
        self.assertIs(joins(TURN, 1, 2), None)

    def test_accepted_if_the_states_are_together_in_the_finest_blocks_otherwise_none(self):
        for system in ALL:
            blocks = finest_by_joining(system)
            for one, other in itertools.product(chosen_in(system), repeat=2):
                with self.subTest(system=system, one=one, other=other):
                    told = joins(system, one, other)
                    if blocks[one] == blocks[other]:
                        self.assertIs(type(told), tuple)
                        self.assertIs(accepts_joins(system, one, other, told), True)
                    else:
                        self.assertIs(told, None)

    def test_what_joins_join_is_together_in_all_revocable_blocks(self):
        for system in SMALL:
            asked = asked_pairs(system)
            right = [blocks for blocks in all_blocks(system) if are_revocable(asked, blocks)]
            for one, other in itertools.combinations(chosen_in(system), 2):
                apart = [blocks for blocks in right if blocks[one] != blocks[other]]
                with self.subTest(system=system, one=one, other=other):
                    self.assertIs(joins(system, one, other) is None, apart != [])


class WrongArgumentTest(ArgumentCase):

    def test_of_a_system(self):
        for function in (finest, quotient):
            self.assert_checked(function, (TURN,), [("system", NO_SYSTEMS)])
        for value in ((None, 0, 1, 2), None, 0):
            self.assert_checked(accepts_blocks, (TURN, value), [("system", NO_SYSTEMS)])

    def test_states_that_are_not_reachable(self):
        states = NO_NUMBERS + [0, 4, 8]
        wrong = [("system", NO_SYSTEMS), ("one", states), ("other", states)]
        self.assert_checked(joins, (TURN, 1, 2), wrong)
        for value in ((), (("command", 1, 1, 0),), None, 0):
            self.assert_checked(accepts_joins, (TURN, 1, 2, value), wrong)


class SameCallTest(unittest.TestCase):

    def told(self, system):
        chosen = chosen_in(system)
        return [finest(system), quotient(system), joins(system, chosen[0], chosen[-1]),
                accepts_blocks(system, finest(system)), accepts_joins(system, chosen[0], chosen[0], ())]

    def test_the_same_call_twice(self):
        systems = (EXAMPLE, PLACE, CARDS, TAIL, NEIGHBOURS, INNER)
        first = [self.told(system) for system in systems]
        self.assertEqual([self.told(system) for system in systems], first)

    def test_kinds_of_values(self):
        told = [finest(TURN), quotient(TURN), quotient(TURN)[2], quotient(TURN)[2][0], joins(TURN, 1, 1)]
        told += [joins(PLACE, 0, 1), *joins(PLACE, 0, 1)]
        self.assertEqual([type(value) for value in told], [tuple] * len(told))

    def test_arguments_are_not_modified(self):
        blocks, steps = [0, 0, 0], [("command", 0, 0, 0)]
        self.assertIs(accepts_blocks(PLACE, blocks), False)
        self.assertIs(accepts_joins(PLACE, 0, 0, steps), False)
        self.assertEqual((blocks, steps), ([0, 0, 0], [("command", 0, 0, 0)]))

    def test_arguments_by_their_names(self):
        self.assertEqual((finest(system=TURN), quotient(system=TURN)), ((None, 0, 1, 2), (3, 0, ((1, 2, 0),))))
        self.assertIs(accepts_blocks(system=TURN, value=(None, 0, 1, 2)), True)
        self.assertIs(joins(system=TURN, one=1, other=2), None)
        self.assertIs(accepts_joins(system=TURN, one=1, other=1, value=()), True)


if __name__ == "__main__":
    unittest.main()
