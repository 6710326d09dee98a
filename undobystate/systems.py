"""What systems, states and sequences are, and where sequences lead.

A system is a tuple (states, start, commands); a sequence is a tuple of numbers of commands.
"""

from undobystate.errors import BadValue

MOST_STATES = 8
MOST_COMMANDS = 4
MOST_IN_SEQUENCE = 16


def is_integer(value):
    """Tell whether the value is an integer."""
    # Python counts True and False among the integers; the document does not.
    return isinstance(value, int) and not isinstance(value, bool)


def is_index(value, many):
    """Tell whether the value is an integer from 0 on that is less than many."""
    return is_integer(value) and 0 <= value < many


def is_index_tuple(value, many):
    """Tell whether the value is a tuple of integers from 0 on that are less than many."""
    return isinstance(value, tuple) and all(is_index(item, many) for item in value)


def is_tuple_of(value, many):
    """Tell whether the value is a tuple of so many items."""
    return isinstance(value, tuple) and len(value) == many


def has_word(value, word, many):
    """Tell whether the value is a tuple of so many items, the word the first one."""
    return is_tuple_of(value, many) and isinstance(value[0], str) and value[0] == word


def is_command_row(value, states):
    """Tell whether the value is a command of a system with so many states."""
    return is_index_tuple(value, states) and len(value) == states


def is_system_within(value, most):
    """Tell whether the value is written as a system, with at most so many states."""
    if not is_tuple_of(value, 3):
        return False
    states, start, commands = value
    if not is_integer(states) or not 1 <= states <= most:
        return False
    if not is_index(start, states):
        return False
    if not isinstance(commands, tuple) or len(commands) > MOST_COMMANDS:
        return False
    return all(is_command_row(row, states) for row in commands)


def is_system(value):
    """Tell whether the value is a system."""
    return is_system_within(value, MOST_STATES)


def is_state(system, value):
    """Tell whether the value is a state of the system."""
    return is_index(value, system[0])


def is_command(system, value):
    """Tell whether the value is the number of a command of the system."""
    return is_index(value, len(system[2]))


def is_sequence_within(system, value, most):
    """Tell whether the value is a tuple of at most so many numbers of commands."""
    return is_index_tuple(value, len(system[2])) and len(value) <= most


def is_sequence(system, value):
    """Tell whether the value is a sequence for the system."""
    return is_sequence_within(system, value, MOST_IN_SEQUENCE)


def check_system(value, name="system"):
    """Raise BadValue with the name of the argument if it is not a system."""
    if not is_system(value):
        raise BadValue(name)


def check_state(system, value, name):
    """Raise BadValue with the name of the argument if it is not a state."""
    if not is_state(system, value):
        raise BadValue(name)


def check_command(system, value, name):
    """Raise BadValue with the name of the argument if it is not the number of a command."""
    if not is_command(system, value):
        raise BadValue(name)


def check_sequence(system, value, name):
    """Raise BadValue with the name of the argument if it is not a sequence."""
    if not is_sequence(system, value):
        raise BadValue(name)


def check_action(system, state, command):
    """Raise BadValue with the name of the first argument that is wrong for an action."""
    check_system(system)
    check_state(system, state, "state")
    check_command(system, command, "command")


def after(system, state, command):
    """Return the state to which the command leads."""
    return system[2][command][state]


def all_after(row, states):
    """Return the tuple of the states to which the command with this row leads from the states."""
    return tuple([row[state] for state in states])


def follow(system, state, sequence):
    """Return the state to which the sequence leads, however long it is, without checks."""
    for command in sequence:
        state = after(system, state, command)
    return state


def led_to(system, state, sequence):
    """Return the state to which the sequence leads from the state."""
    check_system(system)
    check_state(system, state, "state")
    check_sequence(system, sequence, "sequence")
    return follow(system, state, sequence)


def run(system, state, sequence):
    """Return the state and the states to which the beginnings of the sequence lead."""
    check_system(system)
    check_state(system, state, "state")
    check_sequence(system, sequence, "sequence")
    states = [state]
    for command in sequence:
        states.append(after(system, states[-1], command))
    return tuple(states)
