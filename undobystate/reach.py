"""Which states are reached, by which first sequences, and the evidence of it.

Evidence is ("path", sequence) or ("closed", chosen).
"""

from undobystate.errors import BadValue
from undobystate.systems import all_after, check_state, check_system, follow, has_word, is_index_tuple
from undobystate.systems import is_sequence_within, is_state

MOST_IN_PATH = 100


def tuples_from(system, states, most):
    """Return a dict that gives each tuple of states to which a sequence leads from the states the first such sequence.

    The tuples are in the order of these sequences. All of them are found, unless there are more than most; then perhaps
    only some, but more than most.
    """
    found = {states: ()}
    level = [states]
    # A level is in the order of its sequences, so what finds a tuple first is its first sequence.
    while level and len(found) <= most:
        behind = []
        for here in level:
            for command, row in enumerate(system[2]):
                there = all_after(row, here)
                if there not in found:
                    found[there] = found[here] + (command,)
                    behind.append(there)
        level = behind
    return found


def sequences_from(system, state):
    """Return a dict that gives each state that is reached the first sequence to it."""
    found = tuples_from(system, (state,), system[0])
    return {states[0]: found[states] for states in found}


def reached_from(system, state):
    """Return the ascending tuple of the states that the state reaches."""
    return tuple(sorted(sequences_from(system, state)))


def is_reachable(system, value):
    """Tell whether the value is a reachable state."""
    return is_state(system, value) and value in reached_from(system, system[1])


def check_reachable(system, value, name):
    """Raise BadValue with the name of the argument if it is not a reachable state."""
    if not is_reachable(system, value):
        raise BadValue(name)


def reachable(system):
    """Return the ascending tuple of the reachable states."""
    check_system(system)
    return reached_from(system, system[1])


def first_sequence(system, state, target):
    """Return the first sequence from the state to the target, or None if there is none."""
    check_system(system)
    check_state(system, state, "state")
    check_state(system, target, "target")
    return sequences_from(system, state).get(target)


def reach_evidence(system, state, target):
    """Return evidence that the state reaches the target, or that it does not."""
    sequence = first_sequence(system, state, target)
    if sequence is None:
        return ("closed", reached_from(system, state))
    return ("path", sequence)


def is_ascending(numbers):
    """Tell whether each number is less than the next one."""
    return all(one < other for one, other in zip(numbers, numbers[1:]))


def is_closed(system, chosen):
    """Tell whether no command leads from a chosen state to one that is not chosen."""
    return all(row[state] in chosen for row in system[2] for state in chosen)


def shows_reach(system, state, target, sequence):
    """Tell whether the value is a sequence that leads from the state to the target."""
    return is_sequence_within(system, sequence, MOST_IN_PATH) and follow(system, state, sequence) == target


def shows_no_reach(system, state, target, chosen):
    """Tell whether the value is a closed tuple of states with the state and without the target."""
    if not is_index_tuple(chosen, system[0]) or not is_ascending(chosen):
        return False
    return state in chosen and target not in chosen and is_closed(system, chosen)


def accepts_reach(system, state, target, value):
    """Tell whether the value is evidence of either word about the state and the target."""
    check_system(system)
    check_state(system, state, "state")
    check_state(system, target, "target")
    if has_word(value, "path", 2):
        return shows_reach(system, state, target, value[1])
    return has_word(value, "closed", 2) and shows_no_reach(system, state, target, value[1])
