"""Which commands are to be withdrawn so that every action with the others can be undone.

A set of commands is an ascending tuple of their numbers. Evidence that a set is maximal is a pair (rows, refutations).
"""

from undobystate.errors import BadValue
from undobystate.groups import accepts_group, group_evidence, is_regular, products
from undobystate.reach import is_ascending
from undobystate.systems import check_system, has_word, is_index_tuple, is_tuple_of


def check_set(system, value):
    """Raise BadValue if the argument is not a set of commands."""
    if not is_index_tuple(value, len(system[2])) or not is_ascending(value):
        raise BadValue("chosen")


def system_with(system, chosen):
    """Return the system that has the commands of the set alone."""
    check_system(system)
    check_set(system, chosen)
    return (system[0], system[1], tuple([system[2][command] for command in chosen]))


def is_enough(system, chosen):
    """Tell whether every action can be undone in the system with the set."""
    return is_regular(system_with(system, chosen))


def other_commands(system, chosen):
    """Return the ascending tuple of the commands that are not in the set."""
    return tuple([command for command in range(len(system[2])) if command not in chosen])


def wider_sets(system, chosen):
    """Return the list of the sets with one command more, in the order of these commands."""
    return [tuple(sorted(chosen + (command,))) for command in other_commands(system, chosen)]


def is_maximal(system, chosen):
    """Tell whether the set is enough by itself, and no set with one command more is."""
    if not is_enough(system, chosen):
        return False
    return not any(is_enough(system, wider) for wider in wider_sets(system, chosen))


def all_sets(system):
    """Return the ascending list of all sets of commands."""
    sets = [()]
    for command in range(len(system[2])):
        sets = sets + [chosen + (command,) for chosen in sets]
    return sorted(sets)


def maximal(system):
    """Return the ascending list of the maximal sets."""
    check_system(system)
    return [chosen for chosen in all_sets(system) if is_maximal(system, chosen)]


def fewest(system):
    """Return the set of the fewest commands to withdraw."""
    sets = maximal(system)
    most = max([len(chosen) for chosen in sets])
    kept = [chosen for chosen in sets if len(chosen) == most]
    return other_commands(system, kept[0])


def maximal_evidence(system, chosen):
    """Return the told evidence that the set is maximal, or None if it is not."""
    check_system(system)
    check_set(system, chosen)
    if not is_maximal(system, chosen):
        return None
    refutations = [group_evidence(system_with(system, wider)) for wider in wider_sets(system, chosen)]
    return (products(system_with(system, chosen)), tuple(refutations))


def shows_not_enough(system, chosen, value):
    """Tell whether the value is evidence that the system with the set is not regular."""
    return has_word(value, "refutation", 4) and accepts_group(system_with(system, chosen), value)


def accepts_maximal(system, chosen, value):
    """Tell whether the value is evidence that the set is maximal."""
    check_system(system)
    check_set(system, chosen)
    if not is_tuple_of(value, 2) or not accepts_group(system_with(system, chosen), ("rows", value[0])):
        return False
    sets = wider_sets(system, chosen)
    if not is_tuple_of(value[1], len(sets)):
        return False
    return all(shows_not_enough(system, wider, item) for wider, item in zip(sets, value[1]))
