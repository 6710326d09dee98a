"""Points 2 to 8 and 32 to 41, and the interface of undobystate/notes.py."""

import itertools
import unittest

from cases import ALONE, CARDS, EXAMPLE, LADDER, NO_NUMBERS, NO_SYSTEMS, PLACE, RING, WIDEST
from cases import ArgumentCase, actions_in, first_to_pairs, longest_to_try, mixed_systems, permutation_systems
from cases import place_after, regular_systems, seconds_reached, sequences_by_length, small_systems
from undobystate.actions import is_revocable
from undobystate.notes import accepts_rule, accepts_spread, least_notes, told_rule, told_spread

# Behind the command 0 done in 0, each state has every state as a counterpart.
EVERY = (8, 0, ((1, 2, 3, 4, 5, 6, 7, 0), (0, 0, 2, 3, 4, 5, 6, 7)))

# The command 0 leads to 1, and the command 1 from 0 to 2 alone: the state 1 has the counterparts 0, 1, 2.
FEW = (3, 0, ((1, 1, 1), (2, 1, 2)))

SYSTEMS = [EXAMPLE, PLACE, CARDS, LADDER, RING, WIDEST, FEW, EVERY, (1, 0, ((0,),) * 4)]
ALL = SYSTEMS + small_systems() + mixed_systems(30) + permutation_systems(60) + regular_systems()


def all_actions():
    """Yield all actions of the systems, each with its system and the state after it."""
    for system in ALL:
        for state, command, behind in actions_in(system):
            yield system, state, command, behind


def works(system, state, command, rule):
    """Tell whether the rule's result is the state without the action behind every sequence."""
    initial, results, nexts = rule
    found = {(system[2][command][state], state, initial)}
    while True:
        more = found | {(row[here], row[without], nexts[here][note][k])
                        for k, row in enumerate(system[2]) for here, without, note in found}
        if more == found:
            return all(results[here][note] == without for here, without, note in found)
        found = more


def note_behind(system, rule, state, sequence):
    """Return the present state and the note behind the sequence, done in the state."""
    note = rule[0]
    for command in sequence:
        note = rule[2][state][note][command]
        state = system[2][command][state]
    return state, note


def with_notes_renumbered(rule, names):
    """Return the rule with the note k as names[k] in all places."""
    initial, results, nexts = rule
    back = [names.index(note) for note in range(len(names))]
    return (names[initial], tuple(tuple(row[note] for note in back) for row in results),
            tuple(tuple(tuple(names[item] for item in row[note]) for note in back) for row in nexts))


def with_a_note_more(rule, number):
    """Return the rule with a further note, which is not used, with results and next notes that the number tells."""
    initial, results, nexts = rule
    many = len(results[0])
    wide = tuple(row + ((number + at) % len(results),) for at, row in enumerate(results))
    further = tuple(row + (tuple((number + at + k) % (many + 1) for k in range(len(row[0]))),)
                    for at, row in enumerate(nexts))
    return (initial, wide, further)


class LeastNotesTest(unittest.TestCase):

    def test_the_examples(self):
        self.assertEqual((least_notes(PLACE, 0, 0), least_notes(RING, 0, 0)), (2, 1))
        self.assertEqual((least_notes(EVERY, 0, 0), least_notes(FEW, 0, 0)), (8, 3))

    def test_all_actions(self):
        for system, state, command, behind in all_actions():
            with self.subTest(system=system, state=state, command=command):
                many = least_notes(system, state, command)
                self.assertEqual(many, max(len(some) for some in seconds_reached(system, behind, state)))
                self.assertEqual(many == 1, is_revocable(system, state, command))
                self.assertLessEqual(many, system[0])

    def test_each_number(self):
        told = {least_notes(system, state, command) for system, state, command, _ in all_actions()}
        self.assertEqual(told, set(range(1, 9)))

    def test_some_rule_with_so_many_notes_works_exactly_if_they_are_enough(self):
        for system in [(2, 0, ((1, 1),)), (2, 0, ((1, 0),)), (2, 1, ((0, 0), (0, 1)))]:
            for state, command, _ in actions_in(system):
                for many in (1, 2):
                    right = [rule for rule in all_rules(system, many) if accepts_rule(system, state, command, rule)]
                    with self.subTest(system=system, state=state, command=command, many=many):
                        self.assertEqual(right != [], many >= least_notes(system, state, command))


def all_rules(system, many):
    """Yield all rules of the system with so many notes."""
    notes = range(many)
    result_rows = list(itertools.product(range(system[0]), repeat=many))
    next_rows = list(itertools.product(itertools.product(notes, repeat=len(system[2])), repeat=many))
    for initial in notes:
        for results in itertools.product(result_rows, repeat=system[0]):
            for nexts in itertools.product(next_rows, repeat=system[0]):
                yield (initial, results, nexts)


class ToldRuleTest(unittest.TestCase):

    def test_the_examples(self):
        told = (0, ((1, 2), (0, 2), (0, 1)), (((0, 1), (1, 0)), ((0, 0), (1, 1)), ((1, 0), (0, 1))))
        self.assertEqual(told_rule(PLACE, 0, 0), told)
        self.assertEqual(told_rule(RING, 0, 0), (0, ((2,), (0,), (1,)), (((0,),), ((0,),), ((0,),))))

    def test_zero_where_there_is_no_counterpart(self):
        nexts = (((0, 0),) * 3, ((1, 2), (1, 1), (1, 2)), ((0, 0),) * 3)
        self.assertEqual(told_rule(FEW, 0, 0), (0, ((0, 0, 0), (0, 1, 2), (0, 0, 0)), nexts))
        nexts = (((0,), (0,)), ((0,), (0,)), ((0,), (0,)), ((1,), (0,)))
        self.assertEqual(told_rule((4, 0, ((1, 2, 3, 1),)), 0, 0), (0, ((0, 0), (0, 3), (1, 0), (2, 0)), nexts))

    def test_all_actions(self):
        for system, state, command, behind in all_actions():
            seconds = seconds_reached(system, behind, state)
            many = max(len(some) for some in seconds)
            with self.subTest(system=system, state=state, command=command):
                initial, results, nexts = told_rule(system, state, command)
                self.assertEqual(seconds[behind][initial], state)
                self.assertEqual((len(results), len(nexts)), (system[0], system[0]))
                for here, some in enumerate(seconds):
                    self.assertEqual(results[here], some + (0,) * (many - len(some)))
                    self.assertEqual(len(nexts[here]), many)
                    for note, row in enumerate(nexts[here]):
                        if note >= len(some):
                            self.assertEqual(row, (0,) * len(system[2]))
                            continue
                        self.assertEqual(len(row), len(system[2]))
                        for k, item in enumerate(row):
                            moved = system[2][k]
                            self.assertEqual(seconds[moved[here]][item], moved[some[note]])

    def test_an_initial_note_that_is_not_0(self):
        self.assertEqual(told_rule(PLACE, 1, 0)[0], 0)
        self.assertEqual(told_rule(PLACE, 2, 1)[0], 1)
        self.assertEqual([told_rule(EVERY, state, 0)[0] for state in range(8)], list(range(8)))

    def test_used_it_tells_the_state_without_the_action(self):
        for system in SYSTEMS:
            for state, command, behind in actions_in(system):
                rule = told_rule(system, state, command)
                commands = tuple(range(len(system[2])))
                for sequence in [*sequences_by_length(system, 3), commands * 16, commands[::-1] * 11]:
                    present, note = note_behind(system, rule, behind, sequence)
                    with self.subTest(system=system, state=state, command=command, sequence=sequence):
                        self.assertEqual(present, place_after(system, behind, sequence))
                        self.assertEqual(rule[1][present][note], place_after(system, state, sequence))


class AcceptsRuleTest(ArgumentCase):

    def assert_rule(self, right, system, state, command, rule):
        with self.subTest(system=system, state=state, command=command, rule=rule):
            self.assertIs(accepts_rule(system, state, command, rule), right)

    def test_the_examples(self):
        self.assert_rule(True, PLACE, 0, 0, told_rule(PLACE, 0, 0))
        self.assert_rule(True, RING, 0, 0, (0, ((2,), (0,), (1,)), (((0,),), ((0,),), ((0,),))))
        self.assert_rule(False, RING, 0, 0, (0, ((2,), (0,), (0,)), (((0,),), ((0,),), ((0,),))))

    def test_what_is_told_works(self):
        for system, state, command, _ in all_actions():
            self.assert_rule(True, system, state, command, told_rule(system, state, command))

    def test_all_rules_of_small_systems(self):
        for system in [(1, 0, ((0,),)), (2, 0, ((1, 1),)), (2, 0, ((1, 0),)), (2, 1, ((0, 0),)), (2, 0, ((0, 0),))]:
            rules = [rule for many in (1, 2) for rule in all_rules(system, many)]
            for state, command, _ in actions_in(system):
                accepted = [rule for rule in rules if accepts_rule(system, state, command, rule)]
                with self.subTest(system=system, state=state, command=command):
                    self.assertEqual(accepted, [rule for rule in rules if works(system, state, command, rule)])
                    self.assertNotEqual(accepted, [])
                    self.assertEqual(accepted == rules, system[0] == 1)

    def test_each_place_of_a_rule_changed(self):
        for system in (PLACE, RING, FEW, EXAMPLE, LADDER):
            for state, command, _ in actions_in(system):
                rule = told_rule(system, state, command)
                many = len(rule[1][0])
                for other in self.changed(rule, system[0], many):
                    self.assert_rule(works(system, state, command, other), system, state, command, other)

    def changed(self, rule, states, many):
        """Return the rule with one number changed, each number to each other one of the same kind."""
        initial, results, nexts = rule
        rules = [(note, results, nexts) for note in range(many)]
        for at, row in enumerate(results):
            for note in range(many):
                for state in range(states):
                    new = row[:note] + (state,) + row[note + 1:]
                    rules.append((initial, results[:at] + (new,) + results[at + 1:], nexts))
        for at, rows in enumerate(nexts):
            for note, row in enumerate(rows):
                for k in range(len(row)):
                    for item in range(many):
                        new = rows[:note] + (row[:k] + (item,) + row[k + 1:],) + rows[note + 1:]
                        rules.append((initial, results, nexts[:at] + (new,) + nexts[at + 1:]))
        return rules

    def test_notes_renumbered_and_a_note_more(self):
        for system in (PLACE, RING, FEW, EXAMPLE, CARDS, (8, 0, ((1, 2, 3, 4, 5, 6, 7, 1),))):
            for number, (state, command, _) in enumerate(actions_in(system)):
                rule = told_rule(system, state, command)
                wrong = (rule[0], tuple(((row[0] + 1) % system[0],) + row[1:] for row in rule[1]), rule[2])
                while True:
                    self.assert_rule(True, system, state, command, rule)
                    right = works(system, state, command, wrong)
                    self.assert_rule(right, system, state, command, wrong)
                    many = len(rule[1][0])
                    for names in (tuple(range(many))[::-1], (*range(1, many), 0)):
                        self.assert_rule(True, system, state, command, with_notes_renumbered(rule, names))
                        self.assert_rule(right, system, state, command, with_notes_renumbered(wrong, names))
                    if many == 8:
                        break
                    rule, wrong = with_a_note_more(rule, number), with_a_note_more(wrong, number)

    def test_nine_notes_and_none(self):
        for system in (RING, PLACE, EVERY, (1, 0, ((0,),))):
            rule = told_rule(system, 0, 0)
            while len(rule[1][0]) < 8:
                rule = with_a_note_more(rule, 0)
            self.assert_rule(True, system, 0, 0, rule)
            nine = with_a_note_more(rule, 0)
            self.assertIs(works(system, 0, 0, nine), True)
            self.assert_rule(False, system, 0, 0, nine)
            self.assert_rule(False, system, 0, 0, (0, ((),) * system[0], ((),) * system[0]))

    def test_the_empty_sequence_counts(self):
        # The result behind the empty sequence is wrong, and the note is another one behind every further command.
        right = (0, ((2, 2), (0, 0), (1, 1)), (((1,), (1,)),) * 3)
        wrong = (0, ((2, 2), (1, 0), (1, 1)), (((1,), (1,)),) * 3)
        self.assert_rule(True, RING, 0, 0, right)
        self.assert_rule(False, RING, 0, 0, wrong)

    def test_the_next_note_is_told_by_the_state_ahead_of_the_command(self):
        # In the first rule the next note tells which state is ahead of the command, in the second one which is behind.
        system = (2, 0, ((1, 0),))
        self.assert_rule(True, system, 0, 0, (0, ((0, 1), (0, 1)), (((0,), (0,)), ((1,), (1,)))))
        self.assert_rule(False, system, 0, 0, (0, ((0, 1), (0, 1)), (((1,), (1,)), ((0,), (0,)))))

    def test_rules_of_a_wrong_form(self):
        initial, results, nexts = told_rule(PLACE, 0, 0)
        wrong = [(), (initial,), (initial, results), (results, nexts), (initial, results, nexts, ()),
                 (initial, nexts, results), (2, results, nexts), (8, results, nexts), (0, (), ())]
        for other in ((), results[:2], results + results[:1], ((1, 2, 0), (0, 2), (0, 1)), ((1, 2), (0, 2, 0), (0, 1)),
                      ((1, 2), (0,), (0, 1)), ((1, 2), (0, 2), (0, 1, 0)), ((1, 2, 0), (0, 2, 0), (0, 1, 0)),
                      ((1,), (0,), (0,)), ((1, 3), (0, 2), (0, 1)), ((1, 2), (0, 2), ()), ((), (0, 2), (0, 1))):
            wrong.append((initial, other, nexts))
        for other in ((), nexts[:2], nexts + nexts[:1], nexts[:2] + (nexts[2][:1],), nexts[:2] + ((),),
                      (nexts[0] + nexts[0][:1],) + nexts[1:], ((),) + nexts[1:], (((0, 1), (1,)),) + nexts[1:],
                      (((0, 1), (1, 0, 0)),) + nexts[1:], (((0, 1), (1, 2)),) + nexts[1:], (((0, 1), ()),) + nexts[1:]):
            wrong.append((initial, results, other))
        for rule in wrong:
            self.assert_rule(False, PLACE, 0, 0, rule)

    def test_other_values(self):
        for told in ((PLACE, 0, 0), (RING, 0, 0), (FEW, 0, 0), (EXAMPLE, 2, 1)):
            self.assert_refused(lambda value, told=told: accepts_rule(*told, value), told_rule(*told))

    def test_wrong_numbers_where_the_rule_is_never_asked(self):
        # Only the state 7 is asked, but every item has to be a note or a state.
        rule = told_rule(LADDER, 7, 0)
        self.assert_refused(lambda value: accepts_rule(LADDER, 7, 0, value), rule)
        self.assert_rule(False, LADDER, 7, 0, (0, ((8,),) + rule[1][1:], rule[2]))
        self.assert_rule(False, LADDER, 7, 0, (0, rule[1], (((1,),),) + rule[2][1:]))
        self.assert_rule(True, LADDER, 7, 0, (0, ((5,),) + rule[1][1:], rule[2]))


class ToldSpreadTest(unittest.TestCase):

    def test_the_examples(self):
        self.assertEqual(told_spread(PLACE, 0, 0), ((0,), (0, 1)))
        self.assertEqual(told_spread(RING, 0, 0), ((0, 0),))
        self.assertEqual(told_spread(FEW, 0, 0), ((), (0,), (1,)))

    def test_the_least_state_with_the_most_counterparts(self):
        # 1 and 2 have two counterparts each; 0 has none.
        system = (4, 0, ((1, 2, 3, 1),))
        self.assertEqual(seconds_reached(system, 1, 0), ((), (0, 3), (1,), (2,)))
        self.assertEqual(told_spread(system, 0, 0), ((), (0, 0, 0)))
        # Only 7 has two.
        self.assertEqual(told_spread(LADDER, 3, 0), ((0,) * 3, (0,) * 4))
        # With one counterpart each, it is the least state that has one, in whatever order they are found.
        self.assertEqual(told_spread((5, 0, ((0, 4, 3, 1, 2),)), 1, 0), ((0, 0, 0),))
        # The sequences are in the order of the counterparts, 1 and 6, not of their lengths.
        self.assertEqual(told_spread((8, 0, ((7, 1, 1, 1, 1, 1, 1, 6),)), 0, 0), ((0, 0, 0), (0, 0)))

    def test_all_actions_by_trying_all_sequences(self):
        count = 0
        for system in SYSTEMS + small_systems() + mixed_systems(60) + permutation_systems(40):
            for state, command, behind in actions_in(system):
                seconds = seconds_reached(system, behind, state)
                widest = max(range(system[0]), key=lambda here: (len(seconds[here]), -here))
                longest = longest_to_try(system)
                first = first_to_pairs(system, behind, state, longest)
                told = told_spread(system, state, command)
                with self.subTest(system=system, state=state, command=command):
                    self.assertEqual(len(told), len(seconds[widest]))
                    for sequence, second in zip(told, seconds[widest]):
                        if (widest, second) in first:
                            count += 1
                            self.assertEqual(sequence, first[(widest, second)])
                        else:
                            self.assertGreater(len(sequence), longest)
                            self.assertEqual(place_after(system, behind, sequence), widest)
                            self.assertEqual(place_after(system, state, sequence), second)
        self.assertGreater(count, 1000)

    def test_as_many_sequences_as_the_least_number_of_notes(self):
        for system, state, command, _ in all_actions():
            with self.subTest(system=system, state=state, command=command):
                many = least_notes(system, state, command)
                self.assertEqual(len(told_spread(system, state, command)), many)
                self.assertEqual({len(row) for row in told_rule(system, state, command)[1]}, {many})


class AcceptsSpreadTest(ArgumentCase):

    def assert_spread(self, right, system, state, command, many, value):
        with self.subTest(system=system, state=state, command=command, many=many, value=value):
            self.assertIs(accepts_spread(system, state, command, many, value), right)

    def test_the_examples(self):
        self.assert_spread(True, PLACE, 0, 0, 2, ((0,), (0, 1)))
        self.assert_spread(False, PLACE, 0, 0, 1, ((0,), (0, 1)))
        self.assert_spread(False, PLACE, 0, 0, 3, ((0,), (0, 1)))

    def test_what_is_told_is_accepted_with_its_number_alone(self):
        for system, state, command, _ in all_actions():
            told = told_spread(system, state, command)
            for many in range(1, 9):
                self.assert_spread(many == len(told), system, state, command, many, told)
            self.assert_spread(True, system, state, command, len(told), told[::-1])

    def test_fewer_sequences_than_the_told_ones(self):
        told = told_spread(EVERY, 3, 0)
        self.assertEqual(len(told), 8)
        for many in range(1, 9):
            for value in itertools.combinations(told, many):
                self.assert_spread(True, EVERY, 3, 0, many, value)
        self.assert_spread(False, EVERY, 3, 0, 8, told[:7] + told[:1])
        self.assert_spread(False, EVERY, 3, 0, 8, told[:7])

    def test_nine_sequences(self):
        told = told_spread(EVERY, 3, 0)
        self.assert_spread(False, EVERY, 3, 0, 8, told + told[:1])
        self.assert_bad("many", accepts_spread, EVERY, 3, 0, 9, told + told[:1])

    def test_all_short_spreads(self):
        for system in (PLACE, EXAMPLE, FEW, RING, (2, 0, ((1, 1), (0, 1)))):
            sequences = list(sequences_by_length(system, 2))
            for state, command, behind in actions_in(system):
                for many in (1, 2, 3):
                    for value in itertools.product(sequences, repeat=many):
                        presents = {place_after(system, behind, sequence) for sequence in value}
                        withouts = {place_after(system, state, sequence) for sequence in value}
                        right = len(presents) == 1 and len(withouts) == many
                        self.assertIs(accepts_spread(system, state, command, many, value), right,
                                      (system, state, command, value))

    def test_no_two_of_three_lead_to_the_same_state(self):
        self.assert_spread(True, FEW, 0, 0, 3, ((), (0,), (1,)))
        for value in (((), (0,), (0, 0)), ((0,), (), (0, 0)), ((0,), (0, 0), ()), ((1,), (1,), (0,))):
            self.assert_spread(False, FEW, 0, 0, 3, value)

    def test_all_of_three_lead_to_the_same_present_state(self):
        system = (4, 0, ((1, 1, 1, 3), (2, 1, 2, 3), (3, 3, 3, 3), (3, 1, 2, 3)))
        self.assert_spread(True, system, 0, 0, 4, ((), (0,), (1,), (3,)))
        for value in itertools.permutations(((), (0,), (2,))):
            self.assert_spread(False, system, 0, 0, 3, value)
            self.assert_spread(False, system, 0, 0, 2, value[:2] if (2,) in value[:2] else value[1:])

    def test_one_sequence(self):
        for sequence in sequences_by_length(PLACE, 3):
            self.assert_spread(True, PLACE, 0, 0, 1, (sequence,))
        self.assert_spread(False, PLACE, 0, 0, 1, ())

    def test_64_commands_and_no_more(self):
        for length in (0, 1, 16, 17, 63, 64):
            self.assert_spread(True, (2, 0, ((1, 1), (0, 1))), 0, 0, 2, ((1,) * length, (0,) * 64))
            self.assert_spread(True, (2, 0, ((1, 1), (0, 1))), 0, 0, 2, ((0,) * 64, (1,) * length))
            self.assert_spread(True, RING, 0, 0, 1, ((0,) * length,))
        for length in (65, 66, 100, 1000):
            self.assert_spread(False, (2, 0, ((1, 1), (0, 1))), 0, 0, 2, ((1,) * length, (0,)))
            self.assert_spread(False, (2, 0, ((1, 1), (0, 1))), 0, 0, 2, ((), (0,) * length))
            self.assert_spread(False, RING, 0, 0, 1, ((0,) * length,))

    def test_other_values(self):
        system = (2, 0, ((1, 1), (0, 1)))
        for told, value in (((PLACE, 0, 0, 2), ((0,), (0, 1))), ((system, 0, 0, 2), ((1, 1), (1, 0))),
                            ((FEW, 0, 0, 3), ((), (0,), (1,))), ((RING, 0, 0, 1), ((0, 0),))):
            self.assert_refused(lambda other, told=told: accepts_spread(*told, other), value)
            for wrong in ((), value[1:], value + ((),), value[0], (value,), (value,) * len(value)):
                self.assert_spread(False, *told, wrong)
        for command in (2, 3, 4, -1, True, None):
            self.assert_spread(False, system, 0, 0, 2, ((), (0, command)))


class WrongArgumentTest(ArgumentCase):

    WRONG = [("system", NO_SYSTEMS), ("state", NO_NUMBERS + [3, 8]), ("command", NO_NUMBERS + [2, 4])]

    def test_of_an_action(self):
        for function in (least_notes, told_rule, told_spread):
            self.assert_checked(function, (PLACE, 0, 0), self.WRONG)
        for value in (told_rule(PLACE, 0, 0), None, 0):
            self.assert_checked(accepts_rule, (PLACE, 0, 0, value), self.WRONG)

    def test_many(self):
        wrong = self.WRONG + [("many", NO_NUMBERS + [0, 9, 10, 100])]
        for value in (((0,), (0, 1)), None, 0, ((0,),) * 9, ()):
            self.assert_checked(accepts_spread, (PLACE, 0, 0, 2, value), wrong)

    def test_many_from_1_to_8(self):
        for many in range(1, 9):
            self.assertIs(accepts_spread(PLACE, 0, 0, many, ((0,), (0, 1))), many == 2)

    def test_without_commands_there_is_no_action(self):
        for function in (least_notes, told_rule, told_spread):
            self.assert_bad("command", function, ALONE, 0, 0)
        self.assert_bad("command", accepts_rule, ALONE, 0, 0, (0, ((0,),), (((),),)))
        self.assert_bad("command", accepts_spread, ALONE, 0, 0, 1, ((),))


class SameCallTest(unittest.TestCase):

    def told(self, system):
        return [least_notes(system, 0, 0), told_rule(system, 0, 0), told_spread(system, 0, 0),
                accepts_rule(system, 0, 0, told_rule(system, 0, 0)), accepts_spread(system, 0, 0, 2, ((0,), (0, 1)))]

    def test_the_same_call_twice(self):
        first = [self.told(system) for system in (PLACE, FEW, WIDEST, EVERY)]
        self.assertEqual([self.told(system) for system in (PLACE, FEW, WIDEST, EVERY)], first)

    def test_kinds_of_values(self):
        initial, results, nexts = told_rule(FEW, 0, 0)
        told = [told_rule(FEW, 0, 0), results, nexts, *results, *nexts, *nexts[0], *nexts[1], told_spread(FEW, 0, 0)]
        self.assertEqual([type(value) for value in told + list(told_spread(FEW, 0, 0))], [tuple] * (len(told) + 3))
        self.assertEqual([type(value) for value in (initial, least_notes(FEW, 0, 0))], [int, int])

    def test_arguments_by_their_names(self):
        action = {"system": PLACE, "state": 0, "command": 0}
        self.assertEqual((least_notes(**action), told_spread(**action)), (2, ((0,), (0, 1))))
        self.assertIs(accepts_rule(value=told_rule(**action), **action), True)
        self.assertIs(accepts_spread(many=2, value=((0,), (0, 1)), **action), True)


if __name__ == "__main__":
    unittest.main()
