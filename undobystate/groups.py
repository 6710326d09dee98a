"""Whether all actions can be undone by the present state alone, and the products of the states if they can.

Evidence is ("rows", rows) or ("refutation", command, one, other).
"""

from undobystate.errors import NotPossible
from undobystate.pairs import determines, is_refutation_from, refutation_from
from undobystate.reach import check_reachable, first_sequence, reachable, reached_from, sequences_from
from undobystate.systems import after, all_after, check_command, check_sequence, check_system, follow, has_word
from undobystate.systems import is_command, is_index_tuple, is_tuple_of


def failing_in(system):
    """Return the ascending tuple of the commands whose action in the start is not revocable, without checks."""
    start = system[1]
    return tuple([command for command, row in enumerate(system[2]) if not determines(system, row[start], start)])


def failing(system):
    """Return the ascending tuple of the commands whose action in the start is not revocable."""
    check_system(system)
    return failing_in(system)


def is_regular(system):
    """Tell whether every action in each reachable state is revocable."""
    return failing(system) == ()


def check_regular(system):
    """Raise NotPossible if the system is not regular."""
    if not is_regular(system):
        raise NotPossible("regular")


def products(system):
    """Return the rows of all products, or None if the system is not regular."""
    if not is_regular(system):
        return None
    first = sequences_from(system, system[1])
    chosen = reachable(system)
    return tuple([tuple([follow(system, other, first[one]) for other in chosen]) for one in chosen])


def product_of(system, one, other):
    """Return the state to which what leads from the start to one leads from the other, without checks."""
    return follow(system, other, first_sequence(system, system[1], one))


def inverse_of(system, state):
    """Return the reachable state whose product with the state is the start, without checks."""
    chosen = reachable(system)
    row = [product_of(system, state, other) for other in chosen]
    return chosen[row.index(system[1])]


def product(system, one, other):
    """Return the product of the two states."""
    check_system(system)
    check_reachable(system, one, "one")
    check_reachable(system, other, "other")
    check_regular(system)
    return product_of(system, one, other)


def inverse(system, state):
    """Return the inverse of the state."""
    check_system(system)
    check_reachable(system, state, "state")
    check_regular(system)
    return inverse_of(system, state)


def factor(system, sequence, command):
    """Return the state with which the product undoes the command behind the sequence from the start."""
    check_system(system)
    check_sequence(system, sequence, "sequence")
    check_command(system, command, "command")
    check_regular(system)
    before = follow(system, system[1], sequence)
    return product_of(system, inverse_of(system, after(system, before, command)), before)


def group_evidence(system):
    """Return the told evidence: that the system is regular, or that it is not."""
    wrong = failing(system)
    if not wrong:
        return ("rows", products(system))
    start = system[1]
    one, other = refutation_from(system, after(system, start, wrong[0]), start)
    return ("refutation", wrong[0], one, other)


def is_rows(system, chosen, value):
    """Tell whether the value has a row of chosen states for each chosen state, with one for each of them."""
    many = len(chosen)
    if not is_tuple_of(value, many):
        return False
    if not all(is_index_tuple(row, system[0]) and len(row) == many for row in value):
        return False
    return all(state in chosen for row in value for state in row)


def differ_in_each_place(rows):
    """Tell whether in no place two of the rows have the same state."""
    return all([len(set(column)) == len(rows) for column in zip(*rows)])


def shows_regular(system, value):
    """Tell whether the value is rows of products that show that the system is regular."""
    chosen = reached_from(system, system[1])
    if not is_rows(system, chosen, value):
        return False
    rows = dict(zip(chosen, value))
    if rows[system[1]] != chosen:
        return False
    for command in system[2]:
        if not all(rows[command[state]] == all_after(command, rows[state]) for state in chosen):
            return False
    return differ_in_each_place(value)


def shows_failing(system, command, value):
    """Tell whether the value is a refutation for the action of the command in the start."""
    if not is_command(system, command):
        return False
    start = system[1]
    return is_refutation_from(system, after(system, start, command), start, value)


def accepts_group(system, value):
    """Tell whether the value is evidence of either word about the system."""
    check_system(system)
    if has_word(value, "rows", 2):
        return shows_regular(system, value[1])
    return has_word(value, "refutation", 4) and shows_failing(system, value[1], value[2:])
