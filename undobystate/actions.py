"""Whether an action is revocable: whether the present state alone tells the state without it.

Evidence is ("table", table) or ("refutation", one, other).
"""

from undobystate.pairs import counterparts_from, determines, is_refutation_from, is_table_from
from undobystate.pairs import refutation_from, table_from
from undobystate.systems import after, check_action, has_word


def counterparts(system, state, command):
    """Return the tuple of the ascending tuples of the counterparts of each state, for the action."""
    check_action(system, state, command)
    return counterparts_from(system, after(system, state, command), state)


def is_revocable(system, state, command):
    """Tell whether each state has at most one counterpart for the action."""
    check_action(system, state, command)
    return determines(system, after(system, state, command), state)


def told_table(system, state, command):
    """Return the table of the only counterparts, or None if the action is not revocable."""
    check_action(system, state, command)
    return table_from(system, after(system, state, command), state)


def passes_check(system, state, command, value):
    """Tell whether the value is a table that passes the check for the action."""
    check_action(system, state, command)
    return is_table_from(system, after(system, state, command), state, value)


def told_refutation(system, state, command):
    """Return the told refutation, or None if the action is revocable."""
    check_action(system, state, command)
    return refutation_from(system, after(system, state, command), state)


def refutes(system, state, command, value):
    """Tell whether the value is a refutation for the action."""
    check_action(system, state, command)
    return is_refutation_from(system, after(system, state, command), state, value)


def action_evidence(system, state, command):
    """Return the told evidence: that the action is revocable, or that it is not."""
    refutation = told_refutation(system, state, command)
    if refutation is None:
        return ("table", told_table(system, state, command))
    return ("refutation", refutation[0], refutation[1])


def accepts_action(system, state, command, value):
    """Tell whether the value is evidence of either word about the action."""
    check_action(system, state, command)
    if has_word(value, "table", 2):
        return passes_check(system, state, command, value[1])
    return has_word(value, "refutation", 3) and refutes(system, state, command, value[1:])
