"""Whether the states of one system tell the states of another one to which the same commands lead.

A map is a tuple with a state of the second system, or None, for each state of the first one; a split is a pair of
sequences that show that there is none.
"""

from undobystate.errors import NotPossible
from undobystate.pairs import is_kept_table, is_refutation_from, refutation_from, table_from
from undobystate.reach import sequences_from
from undobystate.systems import check_system


def check_systems(first, second):
    """Raise the error of the first thing that is wrong with two systems that are to be compared."""
    check_system(first, "first")
    check_system(second, "second")
    if len(first[2]) != len(second[2]):
        raise NotPossible("commands")


def both_of(first, second):
    """Return one system with the states of both, those of the second one behind those of the first one.

    It has up to 16 states. What leads on in both at once are the pairs that come from the two starts in it.
    """
    moved = [tuple([first[0] + state for state in row]) for row in second[2]]
    commands = [row + behind for row, behind in zip(first[2], moved)]
    return (first[0] + second[0], first[1], tuple(commands))


def told_map(first, second):
    """Return the map that has None for all states that are not reachable, or None if there is no map."""
    check_systems(first, second)
    table = table_from(both_of(first, second), first[1], first[0] + second[1])
    if table is None:
        return None
    return tuple([None if entry is None else entry - first[0] for entry in table[:first[0]]])


def accepts_map(first, second, value):
    """Tell whether the value is a map from the first system to the second one."""
    check_systems(first, second)
    return is_kept_table(first, second, first[1], second[1], value)


def told_split(first, second):
    """Return the told split, or None if there is a map."""
    check_systems(first, second)
    return refutation_from(both_of(first, second), first[1], first[0] + second[1])


def accepts_split(first, second, value):
    """Tell whether the value is a split of the two systems."""
    check_systems(first, second)
    return is_refutation_from(both_of(first, second), first[1], first[0] + second[1], value)


def form_of(system):
    """Return the told form, without checks."""
    order = list(sequences_from(system, system[1]))
    commands = [tuple([order.index(row[state]) for state in order]) for row in system[2]]
    return (len(order), 0, tuple(commands))


def are_alike(first, second):
    """Tell whether there is a map from each of the systems to the other one."""
    check_systems(first, second)
    return form_of(first) == form_of(second)


def told_form(system):
    """Return the system with its reachable states alone, in the order of their first sequences."""
    check_system(system)
    return form_of(system)
