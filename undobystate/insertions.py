"""Whether an action is insertable: whether, if it was left out, the present state tells the state with it."""

from undobystate.agreeing import can_be_exchanged
from undobystate.pairs import determines, is_refutation_from, is_table_from, refutation_from, table_from
from undobystate.systems import after, check_action, check_command, check_state, check_system


def is_insertable(system, state, command):
    """Tell whether each state has at most one partner for the action."""
    check_action(system, state, command)
    return determines(system, state, after(system, state, command))


def insertion_table(system, state, command):
    """Return the table of the only partners, or None if the action is not insertable."""
    check_action(system, state, command)
    return table_from(system, state, after(system, state, command))


def accepts_insertion(system, state, command, value):
    """Tell whether the value is a good table for the action."""
    check_action(system, state, command)
    return is_table_from(system, state, after(system, state, command), value)


def insertion_refutation(system, state, command):
    """Return the told refutation, or None if the action is insertable."""
    check_action(system, state, command)
    return refutation_from(system, state, after(system, state, command))


def refutes_insertion(system, state, command, value):
    """Tell whether the value is a refutation of the insertion."""
    check_action(system, state, command)
    return is_refutation_from(system, state, after(system, state, command), value)


def can_exchange(system, state, one, other):
    """Tell whether the two commands can be exchanged in the state."""
    check_system(system)
    check_state(system, state, "state")
    check_command(system, one, "one")
    check_command(system, other, "other")
    return can_be_exchanged(system, state, one, other)
