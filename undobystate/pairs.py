"""Pairs of states to which one sequence leads from two states at once, and what they tell.

Here one and other are the two states. A state may come as a first one of pairs; the second ones beside it are its
counterparts, after one for other (or its partners, if a command that was not done is wanted).
"""

from undobystate.reach import tuples_from
from undobystate.systems import follow, is_sequence_within, is_state, is_tuple_of

MOST_IN_REFUTATION = 64


def pairs_from(system, one, other):
    """Return a dict that gives each pair to which a sequence leads from both states the first such sequence.

    The pairs are in the order in which they are found.
    """
    return tuples_from(system, (one, other), system[0] * system[0])


def counterparts_from(system, one, other):
    """Return the tuple of the ascending tuples of the counterparts of each state."""
    beside = [[] for _ in range(system[0])]
    for first, second in pairs_from(system, one, other):
        beside[first].append(second)
    return tuple([tuple(sorted(seconds)) for seconds in beside])


def have_one_second_each(pairs):
    """Tell whether pairs with the same first item have the same second item."""
    seconds = {}
    for first, second in pairs:
        if seconds.setdefault(first, second) != second:
            return False
    return True


def determines(system, one, other):
    """Tell whether each state has at most one counterpart."""
    # Of more pairs than states two have the same first one, so no more of them have to be found.
    return have_one_second_each(tuples_from(system, (one, other), system[0]))


def table_from(system, one, other):
    """Return the table of the only counterparts, or None if a state has several ones."""
    beside = counterparts_from(system, one, other)
    if max([len(seconds) for seconds in beside]) > 1:
        return None
    return tuple([seconds[0] if seconds else None for seconds in beside])


def are_kept(system, target, chosen, entries):
    """Tell whether, from each chosen state, each command leads to one whose entry is where it leads from the entry.

    Entries are states of the target, a system with as many commands; those of the chosen states are not None.
    """
    return all(entries[row[state]] == led[entries[state]] for row, led in zip(system[2], target[2]) for state in chosen)


def is_table_into(system, target, value):
    """Tell whether the value is a tuple with a state of the target or None for each state of the system."""
    return is_tuple_of(value, system[0]) and all(entry is None or is_state(target, entry) for entry in value)


def is_kept_table(system, target, one, other, value):
    """Tell whether the value is a table into the target that has other for one, and that every command keeps."""
    if not is_table_into(system, target, value) or value[one] != other:
        return False
    chosen = [state for state in range(system[0]) if value[state] is not None]
    return are_kept(system, target, chosen, value)


def is_table_from(system, one, other, value):
    """Tell whether the value is a table that has other for one, and that every command keeps."""
    return is_kept_table(system, system, one, other, value)


def refutation_from(system, one, other):
    """Return the sequences of the earliest two pairs with the same first state, or None if there are none."""
    found = pairs_from(system, one, other)
    earliest = {}
    for first, second in found:
        if first in earliest:
            return (earliest[first], found[(first, second)])
        earliest[first] = found[(first, second)]
    return None


def is_refuting(system, value):
    """Tell whether the value is a sequence that a refutation may have."""
    return is_sequence_within(system, value, MOST_IN_REFUTATION)


def is_refutation_from(system, one, other, value):
    """Tell whether the value is two sequences that lead from one to the same state, from other to different ones."""
    if not is_tuple_of(value, 2) or not all(is_refuting(system, sequence) for sequence in value):
        return False
    first, second = value
    if follow(system, one, first) != follow(system, one, second):
        return False
    return follow(system, other, first) != follow(system, other, second)
