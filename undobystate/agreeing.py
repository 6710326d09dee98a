"""Whether sequences agree, which commands are one to one, and where two commands can be exchanged."""

from undobystate.errors import NotPossible
from undobystate.reach import is_reachable, reachable, reached_from
from undobystate.systems import after, check_command, check_sequence, check_state, check_system, follow, is_tuple_of


def agree(system, first, second, state):
    """Tell whether the two sequences lead from the state to the same state."""
    check_system(system)
    check_sequence(system, first, "first")
    check_sequence(system, second, "second")
    check_state(system, state, "state")
    return follow(system, state, first) == follow(system, state, second)


def least_difference(system, first, second):
    """Return the least reachable state at which the sequences do not agree, or None, without checks."""
    for state in reached_from(system, system[1]):
        if follow(system, state, first) != follow(system, state, second):
            return state
    return None


def difference(system, first, second):
    """Return the least reachable state at which the sequences do not agree, or None."""
    check_system(system)
    check_sequence(system, first, "first")
    check_sequence(system, second, "second")
    return least_difference(system, first, second)


def first_merged(system, command):
    """Return the first pair of reachable states that the command merges, or None, without checks."""
    chosen = reached_from(system, system[1])
    for one in chosen:
        for other in chosen:
            if one < other and after(system, one, command) == after(system, other, command):
                return (one, other)
    return None


def one_to_one(system):
    """Return the ascending tuple of the commands that lead from different reachable states to different ones."""
    check_system(system)
    return tuple([command for command in range(len(system[2])) if first_merged(system, command) is None])


def merged(system, command):
    """Return the first pair of reachable states that the command merges, or None."""
    check_system(system)
    check_command(system, command, "command")
    return first_merged(system, command)


def accepts_merged(system, command, value):
    """Tell whether the value is a pair of reachable states that the command merges."""
    check_system(system)
    check_command(system, command, "command")
    if not is_tuple_of(value, 2) or not all(is_reachable(system, state) for state in value):
        return False
    one, other = value
    return one < other and after(system, one, command) == after(system, other, command)


def inverse(system, command):
    """Return the reachable state that the command leads to each reachable state, and None for the other states."""
    if merged(system, command) is not None:
        raise NotPossible("merge")
    back = [None] * system[0]
    for state in reachable(system):
        back[after(system, state, command)] = state
    return tuple(back)


def can_be_exchanged(system, state, one, other):
    """Tell whether the two commands lead from the state to the same state in both orders, without checks."""
    return follow(system, state, (one, other)) == follow(system, state, (other, one))


def exchanged(system, command, other):
    """Return the ascending tuple of the reachable states in which the two commands can be exchanged."""
    check_system(system)
    check_command(system, command, "command")
    check_command(system, other, "other")
    return tuple([state for state in reachable(system) if can_be_exchanged(system, state, command, other)])
