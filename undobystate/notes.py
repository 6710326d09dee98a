"""How many notes must be kept beside the state so that an action can be undone, and by which rule.

A rule is a tuple (initial, results, nexts); a spread is a tuple of sequences.
"""

from undobystate.actions import counterparts
from undobystate.errors import BadValue
from undobystate.pairs import is_refuting, pairs_from
from undobystate.systems import after, check_action, follow, is_index, is_index_tuple, is_integer, is_tuple_of

MOST_NOTES = 8


def most_in(rows):
    """Return how many items the longest row has."""
    return max([len(row) for row in rows])


def least_notes(system, state, command):
    """Return the least number of notes with which some rule works for the action."""
    return most_in(counterparts(system, state, command))


def result_row(seconds, many):
    """Return the results of a state with these counterparts, for so many notes."""
    return seconds + (0,) * (many - len(seconds))


def told_nexts(system, beside, here, note):
    """Return the told next notes for a state and a note, if each state has the counterparts beside it."""
    if note >= len(beside[here]):
        return (0,) * len(system[2])
    without = beside[here][note]
    return tuple([beside[row[here]].index(row[without]) for row in system[2]])


def told_rule(system, state, command):
    """Return the rule whose notes are the indexes of the counterparts."""
    beside = counterparts(system, state, command)
    many = most_in(beside)
    initial = beside[after(system, state, command)].index(state)
    results = tuple([result_row(seconds, many) for seconds in beside])
    nexts = [tuple([told_nexts(system, beside, here, note) for note in range(many)]) for here in range(system[0])]
    return (initial, results, tuple(nexts))


def is_result_rows(system, value):
    """Tell whether the value has a row of states for each state, all for the same number of notes, 1 to 8."""
    if not is_tuple_of(value, system[0]) or not all(is_index_tuple(row, system[0]) for row in value):
        return False
    return 1 <= len(value[0]) <= MOST_NOTES and all(len(row) == len(value[0]) for row in value)


def is_next_row(system, value, many):
    """Tell whether the value has, for each of so many notes, one of these notes for each command."""
    if not is_tuple_of(value, many):
        return False
    return all(is_index_tuple(nexts, many) and len(nexts) == len(system[2]) for nexts in value)


def is_rule(system, value):
    """Tell whether the value is a rule of the system."""
    if not is_tuple_of(value, 3) or not is_result_rows(system, value[1]):
        return False
    initial, results, nexts = value
    many = len(results[0])
    if not is_index(initial, many) or not is_tuple_of(nexts, system[0]):
        return False
    return all(is_next_row(system, row, many) for row in nexts)


def triples_of(system, nexts, first):
    """Return the list of the triples of present state, state without the action and note that come of the first one."""
    found = {first: True}
    waiting = [first]
    while waiting:
        here, without, note = waiting.pop()
        for command, row in enumerate(system[2]):
            triple = (row[here], row[without], nexts[here][note][command])
            if triple not in found:
                found[triple] = True
                waiting.append(triple)
    return list(found)


def accepts_rule(system, state, command, value):
    """Tell whether the value is a rule that works for the action."""
    check_action(system, state, command)
    if not is_rule(system, value):
        return False
    initial, results, nexts = value
    first = (after(system, state, command), state, initial)
    return all(results[here][note] == without for here, without, note in triples_of(system, nexts, first))


def told_spread(system, state, command):
    """Return the first sequences to the counterparts of the least state with the most ones."""
    beside = counterparts(system, state, command)
    sizes = [len(seconds) for seconds in beside]
    widest = sizes.index(max(sizes))
    found = pairs_from(system, after(system, state, command), state)
    return tuple([found[(widest, without)] for without in beside[widest]])


def is_spread(system, one, other, value):
    """Tell whether these sequences lead from one all to the same state, and from other no two to the same."""
    presents = {follow(system, one, sequence): True for sequence in value}
    withouts = {follow(system, other, sequence): True for sequence in value}
    return len(presents) == 1 and len(withouts) == len(value)


def accepts_spread(system, state, command, many, value):
    """Tell whether the value is a spread of the action with so many sequences."""
    check_action(system, state, command)
    if not is_integer(many) or not 1 <= many <= MOST_NOTES:
        raise BadValue("many")
    # A spread's sequences have the bound of a refutation's, any two of them are one.
    if not is_tuple_of(value, many) or not all(is_refuting(system, sequence) for sequence in value):
        return False
    return is_spread(system, after(system, state, command), state, value)
