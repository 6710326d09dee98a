"""Writing the texts of systems and sequences."""

from undobystate.scanning import LETTERS, WORD
from undobystate.systems import check_sequence, check_system


def command_text(command, row):
    """Return the letter of the command, and the states to which it leads."""
    return " ".join([LETTERS[command]] + [str(state) for state in row])


def system_text(system):
    """Return the text of the system."""
    check_system(system)
    states, start, commands = system
    parts = [f"{states} {WORD} {start}"]
    for command, row in enumerate(commands):
        parts.append(command_text(command, row))
    return "; ".join(parts)


def sequence_text(system, sequence):
    """Return the text of the sequence."""
    check_system(system)
    check_sequence(system, sequence, "sequence")
    return "".join([LETTERS[command] for command in sequence])
